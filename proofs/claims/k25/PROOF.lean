import PyProof.Rows.All
import Wide.All
import OpenK.AllK
import Wide.FinOn
import KE.KStateDown
import Lean
import HandS.ForMost
import HandS.ForExc
import HandS.Defaults
import HandS.More
import HandS.IsInst
import HandS.Codes
import HandS.CallLocal
import HandS.Star
import HandS.Sort
import HandS.SortOrd
import HandS.SortInts
import HandS.Zip
import HandS.Conv
import HandS.ClsMeth
import HandS.DictComp
import HandS.Walk
import HandS.Flow
import HandS.Style
import HandS.WrittenGet
import HandS.Head0
import HandS.Head1
import HandS.Head2
import HandS.HeadEnd
import HandS.HeadHook1
import HandS.HeadHook2
import HandS.HeadHook3
import HandS.HeadHook4
import HandS.Lambda
import HandS.EndTab
import HandS.SortKw
import HandS.ListItems
import KE.KDictZip
import KE.OsPair
import KE.SortKeyHeap
import KE.GoesMore
import HandS.Keys
import HandS.RaiseMore
import PySem.Challenge.RW_whokeeps_k25_whole_a_leak_is_shown
set_option Elab.async false
set_option linter.all false
set_option maxRecDepth 100000
set_option maxHeartbeats 4000000
/-! What is asked of the top, beside the library's facts; defs by their promises. -/
namespace WB
open PySem PySem.Spec PyProof.Rows L2 He
/-- one more fact of the top -/
inductive Fx where
  /-- attributes of the class c are read in the usual way; c.m is the def m -/
  | cfun (c m : Str)
  /-- is an instance of the class a one of the class b? -/
  | kit (a b : Str) (r : Bool)
  | kitT (a : Str) (t : String) (r : Bool)
  | kitN (t : String) (b : Str) (r : Bool)
  /-- what isinstance asks of a class of one's own -/
  | isi (a : Str)
  /-- the module's name x is a tuple of texts -/
  | tup (x : Str) (vs : List Str)
  /-- the table t has the def f under k -/
  | tdef (t k f : Str)
  /-- the table t has a tuple of texts under k; no entry -/
  | ttup (t k : Str) (vs : List Str)
  | tnone (t k : Str)
  /-- the def f's code object, whose table is P -/
  | lamT (f : Str) (P : Addr)
def strsB (K : PySem.W.Frag) (a : Addr) (vs : List Str) : Bool := match K.lookup a with
  | some ⟨.type c, _, .seq its _, _⟩ => decide (c = "tuple") && (decide (its.size ≤ sizeLine) && relAll (vs.map V.str) its.toList)
  | _ => false
theorem strsB_ok {K : PySem.W.Frag} {a : Addr} {vs : List Str} (h : strsB K a vs = true) (H : Hp) : SqT K H a (vs.map V.str) := by
  unfold strsB at h
  cases q : K.lookup a with
  | none =>
    rw [q] at h
    cases h
  | some o =>
    obtain ⟨oc, od, dt, osl⟩ := o
    rw [q] at h
    cases oc with
    | type c =>
      cases dt with
      | seq its n =>
        obtain ⟨h1, h2⟩ := ba (show (decide (c = "tuple") && (decide (its.size ≤ sizeLine) && relAll (vs.map V.str) its.toList)) = true from h)
        obtain ⟨h3, h4⟩ := ba h2
        exact .inr ⟨_, its, n, q, congrArg Value.type (of_decide_eq_true h1), rfl, of_decide_eq_true h3, relAll_ok h4⟩
      | _ => cases h
    | _ => cases dt <;> cases h
/-- the address under a text in a table -/
def ta (K : PySem.W.Frag) (t k : Str) : Addr := match PySem.W.nsIn K (ga K t) k with
  | some (some (.ref a)) => a
  | _ => 0
def valIs (r : Option PySem.W.CFound) (a : Addr) : Bool := match r with
  | some (.val (.ref b)) => decide (b = a)
  | _ => false
theorem valIs_ok {r : Option PySem.W.CFound} {a : Addr} (h : valIs r a = true) : r = some (.val (.ref a)) := by
  unfold valIs at h
  split at h
  · rw [of_decide_eq_true h]
  · cases h
def bltB (K : PySem.W.Frag) (P : Addr) : Bool := match K.lookup (ga K "__builtins__") with
  | some ⟨.type c, some d, .plain, _⟩ => decide (c = "module") && (decide (d = builtinsNs) && (decide (ga K "__builtins__" ≠ builtinsNs) && (decide (ga K "__builtins__" ≠ mainGlobals) && decide (ga K "__builtins__" ≠ P))))
  | _ => false
theorem bltB_ok {K : PySem.W.Frag} {P : Addr} {h : Heap} {mg : Str → Option Value} (KX : K.In h) (hm : mg "__builtins__" = some (.ref (ga K "__builtins__"))) (e : bltB K P = true) : h.BuiltinsAt mg P := by
  unfold bltB at e
  cases q : K.lookup (ga K "__builtins__") with
  | none =>
    rw [q] at e
    cases e
  | some o =>
    obtain ⟨oc, od, dt, osl⟩ := o
    rw [q] at e
    cases oc with
    | type c =>
      cases od with
      | some d =>
        cases dt with
        | plain =>
          obtain ⟨h1, h2⟩ := ba e
          obtain ⟨h3, h4⟩ := ba h2
          obtain ⟨h5, h6⟩ := ba h4
          obtain ⟨h7, h8⟩ := ba h6
          exact ⟨_, _, hm, of_decide_eq_true h5, of_decide_eq_true h7, of_decide_eq_true h8, KX _ _ q, congrArg Value.type (of_decide_eq_true h1), congrArg some (of_decide_eq_true h3), rfl⟩
        | _ => cases e
      | none => cases dt <;> cases e
    | _ => cases od <;> cases dt <;> cases e
def Fx.ok (K : PySem.W.Frag) : Fx → Bool
  | .cfun c m => PySem.W.readsIn K (ga K c) (.type "type") && (eqO (PySem.W.specialIn K (.ref (ga K c)) "__getattribute__") (some (some (.builtin "type.__getattribute__"))) &&
      valIs (PySem.W.findCls K (.ref (ga K c)) (.type "type") m) (ma K (ga K c) m))
  | .kit a b r => decide (PySem.W.kitOne K (.ref (ga K a)) (.ref (ga K b)) = some r)
  | .kitT a t r => decide (PySem.W.kitOne K (.ref (ga K a)) (.type t) = some r)
  | .kitN t b r => decide (PySem.W.kitOne K (.type t) (.ref (ga K b)) = some r)
  | .isi a => eqO (PySem.W.findIn K (.ref (ga K a)) "__class__") (some (some (.builtin "object.__class__"))) && (eqO (PySem.W.specialIn K (.builtin "object.__class__") "__get__") (some (some (.builtin "getset_descriptor.__get__"))) &&
      (decide (PySem.W.takesIn K (.builtin "object.__class__") = some true) && decide (PySem.W.mroIn K (ga K a) (.type "object") = some true)))
  | .tup x vs => strsB K (ga K x) vs
  | .tdef t k f => eqO (PySem.W.nsIn K (ga K t) k) (some (some (.ref (ga K f))))
  | .ttup t k vs => eqO (PySem.W.nsIn K (ga K t) k) (some (some (.ref (ta K t k)))) && strsB K (ta K t k) vs
  | .tnone t k => eqO (PySem.W.nsIn K (ga K t) k) (some none)
  | .lamT f P => PySem.W.codeHdIn K (codeOf K (f, none)) P && (decide (mainGlobals ≠ P) && bltB K P)
/-- what the making of a lambda asks of the base -/
theorem lamT_ok {K : PySem.W.Frag} {f : Str} {P : Addr} {h : Heap} {mg : Str → Option Value} (KX : K.In h) (hm : mg "__builtins__" = some (.ref (ga K "__builtins__"))) (e : (Fx.lamT f P).ok K = true) : LamX.TabB h mg (codeOf K (f, none)) P := by
  obtain ⟨h1, h2⟩ := ba (show (PySem.W.codeHdIn K (codeOf K (f, none)) P && (decide (mainGlobals ≠ P) && bltB K P)) = true from e)
  obtain ⟨h3, h4⟩ := ba h2
  exact ⟨PySem.W.codeHd_of_K KX h1, bltB_ok KX hm h4, of_decide_eq_true h3⟩
abbrev AlW : Type := AlT × Bool
/-- the table at P is empty, and not in K -/
def tabE (g : Addr → Option Obj) (K : PySem.W.Frag) (P : Addr) : Bool := (K.lookup P).isNone && (match g P with
  | some o => emptyTab o
  | none => false)
def obsW (fa : List Fa) (fn : List DefD) (ts : List Tab) (fx : List Fx) (tl : List Addr) (g : Addr → Option Obj) (as : List Addr) : AlW := (obsT fa fn ts (frG g as), (fx.all fun f => f.ok (frG g as)) && tl.all fun P => tabE g (frG g as) P)
def valW (fn : List DefD) (ts : List Tab) (w : World) : AlW := (valT fn ts w, true)
structure SaysW (fa : List Fa) (fn : List DefD) (ts : List Tab) (fx : List Fx) (w : World) (K : PySem.W.Frag) : Prop where
  t : SaysT fa fn ts w K
  x : (fx.all fun f => f.ok K) = true
/-- the tables are empty at the top's end -/
def TabsE (tl : List Addr) (K : PySem.W.Frag) (h : Heap) : Prop := ∀ P ∈ tl, K.lookup P = none ∧ h.get? P = some { cls := .none, data := .fields #[] }
theorem tabE_ok {K : PySem.W.Frag} {h : Heap} {tl : List Addr} (e : (tl.all fun P => tabE h.get? K P) = true) : TabsE tl K h := fun P hP => by
  obtain ⟨h1, h2⟩ := ba (show ((K.lookup P).isNone && (match h.get? P with | some o => emptyTab o | none => false)) = true from List.all_eq_true.mp e P hP)
  refine ⟨Option.isNone_iff_eq_none.mp h1, ?_⟩
  cases q : h.get? P with
  | none =>
    rw [q] at h2
    cases h2
  | some o =>
    rw [q] at h2
    rw [emptyTab_eq h2]
def hookW (as : List Addr) (fa : List Fa) (fn : List DefD) (ts : List Tab) (fx : List Fx) (tl : List Addr) : PySem.W.Hook where
  α := AlW
  obs := fun s => obsW fa fn ts fx tl s.heap.get? as
  val := fun w => valW fn ts w
  says := fun w h => ∃ K : PySem.W.Frag, K.In h ∧ SaysW fa fn ts fx w K ∧ TabsE tl K h
  of := fun w s e => by
    obtain ⟨h1, h2⟩ := ba (show ((fx.all fun f => f.ok (frG s.heap.get? as)) && tl.all fun P => tabE s.heap.get? (frG s.heap.get? as) P) = true from congrArg (fun z : AlW => z.2) e)
    exact ⟨_, frG_in, ⟨congrArg (fun z : AlW => z.1) e, h1⟩, tabE_ok h2⟩
  keeps := fun _ _ _ ⟨K, hK, c, d⟩ k => ⟨K, PySem.W.Frag.In.keeps hK k, c, fun P hP => ⟨(d P hP).1, k _ _ (d P hP).2⟩⟩
theorem obW_eq {as : List Addr} {fa : List Fa} {fn : List DefD} {ts : List Tab} {fx : List Fx} {tl : List Addr} (s : PySem.W.SharedT) : obsW fa fn ts fx tl (HandSHeadRun.getT s) as = (hookW as fa fn ts fx tl).obs s.abs := by
  have e : HandSHeadRun.getT s = s.abs.heap.get? := funext (HandSHeadRun.getT_eq s)
  show obsW fa fn ts fx tl (HandSHeadRun.getT s) as = obsW fa fn ts fx tl s.abs.heap.get? as
  rw [e]
section
variable {fa : List Fa} {fn : List DefD} {ts : List Tab} {fx : List Fx} {w : World} {K : PySem.W.Frag}
theorem SaysW.fxs (c : SaysW fa fn ts fx w K) (i : Nat) {f : Fx} (h : fx[i]? = some f := by rfl) : f.ok K = true :=
  List.all_eq_true.mp c.x f (List.mem_of_getElem? h)
end
/-- what the walk of the defs asks of the top: the facts of K, and that the module's names are K's -/
structure Says (fa : List Fa) (fn : List DefD) (ts : List Tab) (fx : List Fx) (w : World) (K : PySem.W.Frag) (mg : Str → Option Value) : Prop where
  c : SaysW fa fn ts fx w K
  h : ∃ h : Heap, K.In h ∧ h.Ns mainGlobals mg
section
variable {fa : List Fa} {fn : List DefD} {ts : List Tab} {fx : List Fx} {w : World} {K : PySem.W.Frag} {mg : Str → Option Value}
theorem Says.def_ (T : Says fa fn ts fx w K mg) (i : Nat) {d : DefD} (h : fn[i]? = some d := by rfl) : ∃ fd, FunD K d.name d.qual d.params d.body d.scope (d.dvs K) (d.kws K) (fAd K d.at_) fd := T.c.t.d.def_ i h
theorem Says.glo (T : Says fa fn ts fx w K mg) (i : Nat) {x : Str} (h : fa[i]? = some (.glo x) := by rfl) : mg x = some (.ref (ga K x)) := let ⟨_, X, G⟩ := T.h; glo_ok X G (T.c.t.d.fact i h)
theorem Says.free (T : Says fa fn ts fx w K mg) (i : Nat) {x : Str} (h : fa[i]? = some (.free x) := by rfl) : mg x = none := let ⟨_, X, G⟩ := T.h; free_ok X G (T.c.t.d.fact i h)
theorem Says.int (T : Says fa fn ts fx w K mg) (i : Nat) {x : Str} {n : Int} (h : fa[i]? = some (.int x n) := by rfl) : ∃ t, mg x = some (.int n t) := let ⟨_, X, G⟩ := T.h; int_ok X G (T.c.t.d.fact i h)
theorem Says.str (T : Says fa fn ts fx w K mg) (i : Nat) {x z : Str} (h : fa[i]? = some (.str x z) := by rfl) : ∃ t, mg x = some (.str z t) := let ⟨_, X, G⟩ := T.h; str_ok X G (T.c.t.d.fact i h)
theorem Says.cls (T : Says fa fn ts fx w K mg) (i : Nat) {x : Str} (h : fa[i]? = some (.cls x) := by rfl) : Cls K (ga K x) := cls_ok (T.c.t.d.fact i h)
theorem Says.noat (T : Says fa fn ts fx w K mg) (i : Nat) {x f : Str} (h : fa[i]? = some (.noat x f) := by rfl) : NoAttr K (ga K x) f := noat_ok (T.c.t.d.fact i h)
theorem Says.meth (T : Says fa fn ts fx w K mg) (i : Nat) {x m : Str} (h : fa[i]? = some (.meth x m) := by rfl) : Meth K (ga K x) m (ma K (ga K x) m) := meth_ok (T.c.t.d.fact i h)
theorem Says.mkr (T : Says fa fn ts fx w K mg) (i : Nat) {x : Str} (h : fa[i]? = some (.mkr x) := by rfl) : Mk K (ga K x) (ma K (ga K x) "__init__") := mkr_ok (T.c.t.d.fact i h)
theorem Says.fxs (T : Says fa fn ts fx w K mg) (i : Nat) {f : Fx} (h : fx[i]? = some f := by rfl) : f.ok K = true := T.c.fxs i h
end
end WB
/-! The text by places: a generated part. -/
namespace WK
open PySem PySem.Spec PyProof.Rows L2 He WB
def top (i : Nat) : Stmt := PySem.Challenge.pw_whokeeps_k25_whole_a_leak_is_shown.main.body.getD i (.Pass ⟨0, 0, 0, 0⟩)
abbrev s_BadProgram_init : Stmt := inClass (top 3) 0
abbrev s_as_value : Stmt := top 13
abbrev s_is_thing : Stmt := top 14
abbrev s_Thing_init : Stmt := inClass (top 15) 0
abbrev s_Thing_has : Stmt := inClass (top 15) 1
abbrev s_Thing_fits : Stmt := inClass (top 15) 2
abbrev s_Thing_held : Stmt := inClass (top 15) 3
abbrev s_Holder_init : Stmt := inClass (top 16) 0
abbrev s_Holder_has : Stmt := inClass (top 16) 1
abbrev s_Holder_at : Stmt := inClass (top 16) 2
abbrev s_Holder_put : Stmt := inClass (top 16) 3
abbrev s_Holder_cut : Stmt := inClass (top 16) 4
abbrev s_Holder_held : Stmt := inClass (top 16) 5
abbrev s_Holder_shown : Stmt := inClass (top 16) 6
abbrev s_Holder_size : Stmt := inClass (top 16) 7
abbrev s_Record_init : Stmt := inClass (top 17) 0
abbrev s_Record_fits : Stmt := inClass (top 17) 1
abbrev s_Record_cut : Stmt := inClass (top 17) 2
abbrev s_Row_init : Stmt := inClass (top 18) 0
abbrev s_Row_has : Stmt := inClass (top 18) 1
abbrev s_Row_fits : Stmt := inClass (top 18) 2
abbrev s_Row_put : Stmt := inClass (top 18) 3
abbrev s_Row_shown : Stmt := inClass (top 18) 4
abbrev s_Book_init : Stmt := inClass (top 19) 0
abbrev s_Book_fits : Stmt := inClass (top 19) 1
abbrev s_Book_size : Stmt := inClass (top 19) 2
abbrev s_Watch_init : Stmt := inClass (top 20) 0
abbrev s_Watch_shown : Stmt := inClass (top 20) 1
abbrev s_Watch_size : Stmt := inClass (top 20) 2
abbrev s_new_thing : Stmt := top 21
abbrev s_is_within : Stmt := top 28
abbrev s_is_word_of : Stmt := top 29
abbrev s_is_deed : Stmt := top 30
abbrev s_check_program : Stmt := top 31
abbrev s_holdings : Stmt := top 33
abbrev s_Picture_init : Stmt := inClass (top 34) 0
abbrev s_Picture_check_thing : Stmt := inClass (top 34) 1
abbrev s_Picture_arrivals : Stmt := inClass (top 34) 2
abbrev s_Picture_kept_by : Stmt := inClass (top 34) 3
abbrev s_Picture_total_of : Stmt := inClass (top 34) 4
abbrev s_keeps : Stmt := top 36
abbrev s_totals : Stmt := top 37
abbrev s_do_make : Stmt := top 40
abbrev s_do_num : Stmt := top 41
abbrev s_do_copy : Stmt := top 42
abbrev s_do_drop : Stmt := top 43
abbrev s_do_put : Stmt := top 44
abbrev s_do_take : Stmt := top 45
abbrev s_do_cut : Stmt := top 46
abbrev s_do_watch : Stmt := top 47
abbrev s_do_last : Stmt := top 48
abbrev s_do_ask : Stmt := top 49
abbrev s_do_settle : Stmt := top 50
abbrev s_do_say : Stmt := top 51
abbrev s_act : Stmt := top 53
abbrev s_Heap_init : Stmt := inClass (top 55) 0
abbrev s_Heap_thing_of : Stmt := inClass (top 55) 1
abbrev s_Heap_bring : Stmt := inClass (top 55) 2
abbrev s_Heap_forget : Stmt := inClass (top 55) 3
abbrev s_Heap_store : Stmt := inClass (top 55) 4
abbrev s_Heap_strike : Stmt := inClass (top 55) 5
abbrev s_Heap_named : Stmt := inClass (top 55) 6
abbrev s_Heap_due_ones : Stmt := inClass (top 55) 7
abbrev s_Heap_spread : Stmt := inClass (top 55) 8
abbrev s_Heap_reach : Stmt := inClass (top 55) 9
abbrev s_Heap_kept : Stmt := inClass (top 55) 10
abbrev s_Heap_tell_watches : Stmt := inClass (top 55) 11
abbrev s_Heap_perform_last : Stmt := inClass (top 55) 12
abbrev s_Heap_photo : Stmt := inClass (top 55) 13
abbrev s_snapshot : Stmt := top 56
abbrev s_Plain_init : Stmt := inClass (top 58) 0
abbrev s_Plain_do : Stmt := inClass (top 58) 1
abbrev s_Plain_reach : Stmt := inClass (top 58) 2
abbrev s_Plain_kept : Stmt := inClass (top 58) 3
abbrev s_Plain_photo : Stmt := inClass (top 58) 4
abbrev s_compared : Stmt := top 62
abbrev s_do_all : Stmt := top 63
abbrev s_growing : Stmt := top 64
abbrev s_grows : Stmt := top 65
abbrev s_keeps_another : Stmt := top 66
abbrev s_leak : Stmt := top 67
abbrev s__law_mix : Stmt := top 69
abbrev s__law_next : Stmt := top 70
abbrev s__law_first : Stmt := top 71
abbrev s__law_down : Stmt := top 72
abbrev s_law : Stmt := top 73
theorem sc_BadProgram_init : FnScope ["self", "place"] ["self", "place"] (defScope s_BadProgram_init) := ⟨rfl, rfl, rfl, by decide +kernel, rfl, by decide +kernel, by decide +kernel⟩
theorem sc_as_value : FnScope ["number"] ["number"] (defScope s_as_value) := ⟨rfl, rfl, rfl, by decide +kernel, rfl, by decide +kernel, by decide +kernel⟩
theorem sc_is_thing : FnScope ["value"] ["value"] (defScope s_is_thing) := ⟨rfl, rfl, rfl, by decide +kernel, rfl, by decide +kernel, by decide +kernel⟩
theorem sc_Thing_init : FnScope ["self", "number", "kind"] ["self", "number", "kind"] (defScope s_Thing_init) := ⟨rfl, rfl, rfl, by decide +kernel, rfl, by decide +kernel, by decide +kernel⟩
theorem sc_Thing_has : FnScope ["self", "part"] ["self", "part"] (defScope s_Thing_has) := ⟨rfl, rfl, rfl, by decide +kernel, rfl, by decide +kernel, by decide +kernel⟩
theorem sc_Thing_fits : FnScope ["self", "part"] ["self", "part"] (defScope s_Thing_fits) := ⟨rfl, rfl, rfl, by decide +kernel, rfl, by decide +kernel, by decide +kernel⟩
theorem sc_Thing_held : FnScope ["self"] ["self"] (defScope s_Thing_held) := ⟨rfl, rfl, rfl, by decide +kernel, rfl, by decide +kernel, by decide +kernel⟩
theorem sc_Holder_init : FnScope ["self", "number", "kind", "cells"] ["self", "number", "kind", "cells"] (defScope s_Holder_init) := ⟨rfl, rfl, rfl, by decide +kernel, rfl, by decide +kernel, by decide +kernel⟩
theorem sc_Holder_has : FnScope ["self", "part"] ["self", "part"] (defScope s_Holder_has) := ⟨rfl, rfl, rfl, by decide +kernel, rfl, by decide +kernel, by decide +kernel⟩
theorem sc_Holder_at : FnScope ["self", "part"] ["self", "part"] (defScope s_Holder_at) := ⟨rfl, rfl, rfl, by decide +kernel, rfl, by decide +kernel, by decide +kernel⟩
theorem sc_Holder_put : FnScope ["self", "part", "value"] ["self", "part", "value"] (defScope s_Holder_put) := ⟨rfl, rfl, rfl, by decide +kernel, rfl, by decide +kernel, by decide +kernel⟩
theorem sc_Holder_cut : FnScope ["self", "part"] ["self", "part"] (defScope s_Holder_cut) := ⟨rfl, rfl, rfl, by decide +kernel, rfl, by decide +kernel, by decide +kernel⟩
theorem sc_Holder_held : FnScope ["self", "_", "value"] ["self"] (defScope s_Holder_held) := ⟨rfl, rfl, rfl, by decide +kernel, rfl, by decide +kernel, by decide +kernel⟩
theorem sc_Holder_shown : FnScope ["self", "part"] ["self"] (defScope s_Holder_shown) := ⟨rfl, rfl, rfl, by decide +kernel, rfl, by decide +kernel, by decide +kernel⟩
theorem sc_Holder_size : FnScope ["self"] ["self"] (defScope s_Holder_size) := ⟨rfl, rfl, rfl, by decide +kernel, rfl, by decide +kernel, by decide +kernel⟩
theorem sc_Record_init : FnScope ["self", "number", "letter"] ["self", "number"] (defScope s_Record_init) := ⟨rfl, rfl, rfl, by decide +kernel, rfl, by decide +kernel, by decide +kernel⟩
theorem sc_Record_fits : FnScope ["self", "part"] ["self", "part"] (defScope s_Record_fits) := ⟨rfl, rfl, rfl, by decide +kernel, rfl, by decide +kernel, by decide +kernel⟩
theorem sc_Record_cut : FnScope ["self", "part"] ["self", "part"] (defScope s_Record_cut) := ⟨rfl, rfl, rfl, by decide +kernel, rfl, by decide +kernel, by decide +kernel⟩
theorem sc_Row_init : FnScope ["self", "number"] ["self", "number"] (defScope s_Row_init) := ⟨rfl, rfl, rfl, by decide +kernel, rfl, by decide +kernel, by decide +kernel⟩
theorem sc_Row_has : FnScope ["self", "part"] ["self", "part"] (defScope s_Row_has) := ⟨rfl, rfl, rfl, by decide +kernel, rfl, by decide +kernel, by decide +kernel⟩
theorem sc_Row_fits : FnScope ["self", "part"] ["self", "part"] (defScope s_Row_fits) := ⟨rfl, rfl, rfl, by decide +kernel, rfl, by decide +kernel, by decide +kernel⟩
theorem sc_Row_put : FnScope ["self", "part", "value"] ["self", "part", "value"] (defScope s_Row_put) := ⟨rfl, rfl, rfl, by decide +kernel, rfl, by decide +kernel, by decide +kernel⟩
theorem sc_Row_shown : FnScope ["self"] ["self"] (defScope s_Row_shown) := ⟨rfl, rfl, rfl, by decide +kernel, rfl, by decide +kernel, by decide +kernel⟩
theorem sc_Book_init : FnScope ["self", "number"] ["self", "number"] (defScope s_Book_init) := ⟨rfl, rfl, rfl, by decide +kernel, rfl, by decide +kernel, by decide +kernel⟩
theorem sc_Book_fits : FnScope ["self", "part"] ["self", "part"] (defScope s_Book_fits) := ⟨rfl, rfl, rfl, by decide +kernel, rfl, by decide +kernel, by decide +kernel⟩
theorem sc_Book_size : FnScope ["self"] ["self"] (defScope s_Book_size) := ⟨rfl, rfl, rfl, by decide +kernel, rfl, by decide +kernel, by decide +kernel⟩
theorem sc_Watch_init : FnScope ["self", "number", "sees"] ["self", "number", "sees"] (defScope s_Watch_init) := ⟨rfl, rfl, rfl, by decide +kernel, rfl, by decide +kernel, by decide +kernel⟩
theorem sc_Watch_shown : FnScope ["self"] ["self"] (defScope s_Watch_shown) := ⟨rfl, rfl, rfl, by decide +kernel, rfl, by decide +kernel, by decide +kernel⟩
theorem sc_Watch_size : FnScope ["self"] ["self"] (defScope s_Watch_size) := ⟨rfl, rfl, rfl, by decide +kernel, rfl, by decide +kernel, by decide +kernel⟩
theorem sc_new_thing : FnScope ["number", "kind"] ["number", "kind"] (defScope s_new_thing) := ⟨rfl, rfl, rfl, by decide +kernel, rfl, by decide +kernel, by decide +kernel⟩
theorem sc_is_within : FnScope ["number", "least", "most"] ["number", "least", "most"] (defScope s_is_within) := ⟨rfl, rfl, rfl, by decide +kernel, rfl, by decide +kernel, by decide +kernel⟩
theorem sc_is_word_of : FnScope ["shape", "word"] ["shape", "word"] (defScope s_is_word_of) := ⟨rfl, rfl, rfl, by decide +kernel, rfl, by decide +kernel, by decide +kernel⟩
theorem sc_is_deed : FnScope ["deed", "word", "parts", "shapes", "shape", "part"] ["deed"] (defScope s_is_deed) := ⟨rfl, rfl, rfl, by decide +kernel, rfl, by decide +kernel, by decide +kernel⟩
theorem sc_check_program : FnScope ["program", "place", "deed"] ["program"] (defScope s_check_program) := ⟨rfl, rfl, rfl, by decide +kernel, rfl, by decide +kernel, by decide +kernel⟩
theorem sc_holdings : FnScope ["parts", "part", "value"] ["parts"] (defScope s_holdings) := ⟨rfl, rfl, rfl, by decide +kernel, rfl, by decide +kernel, by decide +kernel⟩
theorem sc_Picture_init : FnScope ["self", "photo", "names", "things", "number", "kind", "parts", "size"] ["self", "photo"] (defScope s_Picture_init) := ⟨rfl, rfl, rfl, by decide +kernel, rfl, by decide +kernel, by decide +kernel⟩
theorem sc_Picture_check_thing : FnScope ["self", "number"] ["self", "number"] (defScope s_Picture_check_thing) := ⟨rfl, rfl, rfl, by decide +kernel, rfl, by decide +kernel, by decide +kernel⟩
theorem sc_Picture_arrivals : FnScope ["self", "without", "found", "name", "number", "waiting", "ahead", "part", "onward", "held"] ["self", "without"] (defScope s_Picture_arrivals) := ⟨rfl, rfl, rfl, by decide +kernel, rfl, by decide +kernel, by decide +kernel⟩
theorem sc_Picture_kept_by : FnScope ["self", "number", "free", "other"] ["self", "number"] (defScope s_Picture_kept_by) := ⟨rfl, rfl, rfl, by decide +kernel, rfl, by decide +kernel, by decide +kernel⟩
theorem sc_Picture_total_of : FnScope ["self", "number", "other"] ["self", "number"] (defScope s_Picture_total_of) := ⟨rfl, rfl, rfl, by decide +kernel, rfl, by decide +kernel, by decide +kernel⟩
theorem sc_keeps : FnScope ["photo", "number", "picture"] ["photo", "number"] (defScope s_keeps) := ⟨rfl, rfl, rfl, by decide +kernel, rfl, by decide +kernel, by decide +kernel⟩
theorem sc_totals : FnScope ["photo", "picture", "number"] ["photo"] (defScope s_totals) := ⟨rfl, rfl, rfl, by decide +kernel, rfl, by decide +kernel, by decide +kernel⟩
theorem sc_do_make : FnScope ["heap", "name", "kind"] ["heap", "name", "kind"] (defScope s_do_make) := ⟨rfl, rfl, rfl, by decide +kernel, rfl, by decide +kernel, by decide +kernel⟩
theorem sc_do_num : FnScope ["heap", "name", "number"] ["heap", "name", "number"] (defScope s_do_num) := ⟨rfl, rfl, rfl, by decide +kernel, rfl, by decide +kernel, by decide +kernel⟩
theorem sc_do_copy : FnScope ["heap", "name", "other"] ["heap", "name", "other"] (defScope s_do_copy) := ⟨rfl, rfl, rfl, by decide +kernel, rfl, by decide +kernel, by decide +kernel⟩
theorem sc_do_drop : FnScope ["heap", "name"] ["heap", "name"] (defScope s_do_drop) := ⟨rfl, rfl, rfl, by decide +kernel, rfl, by decide +kernel, by decide +kernel⟩
theorem sc_do_put : FnScope ["heap", "name", "part", "other", "thing"] ["heap", "name", "part", "other"] (defScope s_do_put) := ⟨rfl, rfl, rfl, by decide +kernel, rfl, by decide +kernel, by decide +kernel⟩
theorem sc_do_take : FnScope ["heap", "name", "other", "part", "thing"] ["heap", "name", "other", "part"] (defScope s_do_take) := ⟨rfl, rfl, rfl, by decide +kernel, rfl, by decide +kernel, by decide +kernel⟩
theorem sc_do_cut : FnScope ["heap", "name", "part", "thing"] ["heap", "name", "part"] (defScope s_do_cut) := ⟨rfl, rfl, rfl, by decide +kernel, rfl, by decide +kernel, by decide +kernel⟩
theorem sc_do_watch : FnScope ["heap", "name", "other", "seen"] ["heap", "name", "other"] (defScope s_do_watch) := ⟨rfl, rfl, rfl, by decide +kernel, rfl, by decide +kernel, by decide +kernel⟩
theorem sc_do_last : FnScope ["heap", "name", "goal", "thing"] ["heap", "name", "goal"] (defScope s_do_last) := ⟨rfl, rfl, rfl, by decide +kernel, rfl, by decide +kernel, by decide +kernel⟩
theorem sc_do_ask : FnScope ["heap", "name", "other", "watch"] ["heap", "name", "other"] (defScope s_do_ask) := ⟨rfl, rfl, rfl, by decide +kernel, rfl, by decide +kernel, by decide +kernel⟩
theorem sc_do_settle : FnScope ["heap", "told", "reach", "number", "turn"] ["heap"] (defScope s_do_settle) := ⟨rfl, rfl, rfl, by decide +kernel, rfl, by decide +kernel, by decide +kernel⟩
theorem sc_do_say : FnScope ["heap", "name"] ["heap", "name"] (defScope s_do_say) := ⟨rfl, rfl, rfl, by decide +kernel, rfl, by decide +kernel, by decide +kernel⟩
theorem sc_act : FnScope ["heap", "deed", "word", "parts", "doing"] ["heap", "deed"] (defScope s_act) := ⟨rfl, rfl, rfl, by decide +kernel, rfl, by decide +kernel, by decide +kernel⟩
theorem sc_Heap_init : FnScope ["self", "name"] ["self"] (defScope s_Heap_init) := ⟨rfl, rfl, rfl, by decide +kernel, rfl, by decide +kernel, by decide +kernel⟩
theorem sc_Heap_thing_of : FnScope ["self", "name", "value"] ["self", "name"] (defScope s_Heap_thing_of) := ⟨rfl, rfl, rfl, by decide +kernel, rfl, by decide +kernel, by decide +kernel⟩
theorem sc_Heap_bring : FnScope ["self", "name", "thing", "value"] ["self", "name", "thing"] (defScope s_Heap_bring) := ⟨rfl, rfl, rfl, by decide +kernel, rfl, by decide +kernel, by decide +kernel⟩
theorem sc_Heap_forget : FnScope ["self", "number"] ["self", "number"] (defScope s_Heap_forget) := ⟨rfl, rfl, rfl, by decide +kernel, rfl, by decide +kernel, by decide +kernel⟩
theorem sc_Heap_store : FnScope ["self", "thing", "part", "value", "lost"] ["self", "thing", "part", "value"] (defScope s_Heap_store) := ⟨rfl, rfl, rfl, by decide +kernel, rfl, by decide +kernel, by decide +kernel⟩
theorem sc_Heap_strike : FnScope ["self", "thing", "part"] ["self", "thing", "part"] (defScope s_Heap_strike) := ⟨rfl, rfl, rfl, by decide +kernel, rfl, by decide +kernel, by decide +kernel⟩
theorem sc_Heap_named : FnScope ["self", "value"] ["self"] (defScope s_Heap_named) := ⟨rfl, rfl, rfl, by decide +kernel, rfl, by decide +kernel, by decide +kernel⟩
theorem sc_Heap_due_ones : FnScope ["self", "number"] ["self"] (defScope s_Heap_due_ones) := ⟨rfl, rfl, rfl, by decide +kernel, rfl, by decide +kernel, by decide +kernel⟩
theorem sc_Heap_spread : FnScope ["self", "starts", "among", "found", "waiting", "number"] ["self", "starts", "among"] (defScope s_Heap_spread) := ⟨rfl, rfl, rfl, by decide +kernel, rfl, by decide +kernel, by decide +kernel⟩
theorem sc_Heap_reach : FnScope ["self"] ["self"] (defScope s_Heap_reach) := ⟨rfl, rfl, rfl, by decide +kernel, rfl, by decide +kernel, by decide +kernel⟩
theorem sc_Heap_kept : FnScope ["self"] ["self"] (defScope s_Heap_kept) := ⟨rfl, rfl, rfl, by decide +kernel, rfl, by decide +kernel, by decide +kernel⟩
theorem sc_Heap_tell_watches : FnScope ["self", "reach", "thing"] ["self"] (defScope s_Heap_tell_watches) := ⟨rfl, rfl, rfl, by decide +kernel, rfl, by decide +kernel, by decide +kernel⟩
theorem sc_Heap_perform_last : FnScope ["self", "number", "thing"] ["self", "number"] (defScope s_Heap_perform_last) := ⟨rfl, rfl, rfl, by decide +kernel, rfl, by decide +kernel, by decide +kernel⟩
theorem sc_Heap_photo : FnScope ["self", "name", "names", "number"] ["self"] (defScope s_Heap_photo) := ⟨rfl, rfl, rfl, by decide +kernel, rfl, by decide +kernel, by decide +kernel⟩
theorem sc_snapshot : FnScope ["thing"] ["thing"] (defScope s_snapshot) := ⟨rfl, rfl, rfl, by decide +kernel, rfl, by decide +kernel, by decide +kernel⟩
theorem sc_Plain_init : FnScope ["self"] ["self"] (defScope s_Plain_init) := ⟨rfl, rfl, rfl, by decide +kernel, rfl, by decide +kernel, by decide +kernel⟩
theorem sc_Plain_do : FnScope ["self", "deed"] ["self", "deed"] (defScope s_Plain_do) := ⟨rfl, rfl, rfl, by decide +kernel, rfl, by decide +kernel, by decide +kernel⟩
theorem sc_Plain_reach : FnScope ["self"] ["self"] (defScope s_Plain_reach) := ⟨rfl, rfl, rfl, by decide +kernel, rfl, by decide +kernel, by decide +kernel⟩
theorem sc_Plain_kept : FnScope ["self"] ["self"] (defScope s_Plain_kept) := ⟨rfl, rfl, rfl, by decide +kernel, rfl, by decide +kernel, by decide +kernel⟩
theorem sc_Plain_photo : FnScope ["self"] ["self"] (defScope s_Plain_photo) := ⟨rfl, rfl, rfl, by decide +kernel, rfl, by decide +kernel, by decide +kernel⟩
theorem sc_compared : FnScope ["before", "after", "earlier", "later", "number", "new", "gone", "both", "grown"] ["before", "after"] (defScope s_compared) := ⟨rfl, rfl, rfl, by decide +kernel, rfl, by decide +kernel, by decide +kernel⟩
theorem sc_do_all : FnScope ["plain", "program", "deed"] ["plain", "program"] (defScope s_do_all) := ⟨rfl, rfl, rfl, by decide +kernel, rfl, by decide +kernel, by decide +kernel⟩
theorem sc_growing : FnScope ["first", "again", "many", "plain", "photos", "_"] ["first", "again", "many"] (defScope s_growing) := ⟨rfl, rfl, rfl, by decide +kernel, rfl, by decide +kernel, by decide +kernel⟩
theorem sc_grows : FnScope ["number", "tables", "table", "sums", "less", "more"] ["number", "tables"] (defScope s_grows) := ⟨rfl, rfl, rfl, by decide +kernel, rfl, by decide +kernel, by decide +kernel⟩
theorem sc_keeps_another : FnScope ["photo", "number", "among", "kept"] ["photo", "number", "among"] (defScope s_keeps_another) := ⟨rfl, rfl, rfl, by decide +kernel, rfl, by decide +kernel, by decide +kernel⟩
theorem sc_leak : FnScope ["photos", "photo", "tables", "number", "grown"] ["photos"] (defScope s_leak) := ⟨rfl, rfl, rfl, by decide +kernel, rfl, by decide +kernel, by decide +kernel⟩
theorem sc__law_mix : FnScope ["_law_script", "_law_seed", "_law_mixed", "_law_cell"] ["_law_script", "_law_seed"] (defScope s__law_mix) := ⟨rfl, rfl, rfl, by decide +kernel, rfl, by decide +kernel, by decide +kernel⟩
theorem sc__law_next : FnScope ["_law_h", "_law_many", "_law_at", "_law_cell"] ["_law_h", "_law_many"] (defScope s__law_next) := ⟨rfl, rfl, rfl, by decide +kernel, rfl, by decide +kernel, by decide +kernel⟩
theorem sc__law_first : FnScope ["_law_h", "_law_deep", "_law_found", "_law_k", "_law_kind", "_law_part"] ["_law_h", "_law_deep"] (defScope s__law_first) := ⟨rfl, rfl, rfl, by decide +kernel, rfl, by decide +kernel, by decide +kernel⟩
theorem sc__law_down : FnScope ["_law_h", "_law_first_here", "_law_found", "_law_deed"] ["_law_h", "_law_first_here"] (defScope s__law_down) := ⟨rfl, rfl, rfl, by decide +kernel, rfl, by decide +kernel, by decide +kernel⟩
theorem sc_law : FnScope ["_law_script", "_law_h", "_law_deep", "_law_first_here", "_law_down_here", "_law_kind", "_law_part", "_law_again", "_law_many", "_law_photos", "_law_new", "_law_gone", "_law_grown", "_law_number", "_law_by", "_law_deed", "_law_other"] ["_law_script"] (defScope s_law) := ⟨rfl, rfl, rfl, by decide +kernel, rfl, by decide +kernel, by decide +kernel⟩
def d_as_value : DefD := ⟨("as_value", none), "as_value", "as_value", defArgs s_as_value, defBody s_as_value, defScope s_as_value, [], []⟩
def d_is_thing : DefD := ⟨("is_thing", none), "is_thing", "is_thing", defArgs s_is_thing, defBody s_is_thing, defScope s_is_thing, [], []⟩
def d_new_thing : DefD := ⟨("new_thing", none), "new_thing", "new_thing", defArgs s_new_thing, defBody s_new_thing, defScope s_new_thing, [], []⟩
def d_is_within : DefD := ⟨("is_within", none), "is_within", "is_within", defArgs s_is_within, defBody s_is_within, defScope s_is_within, [], []⟩
def d_is_word_of : DefD := ⟨("is_word_of", none), "is_word_of", "is_word_of", defArgs s_is_word_of, defBody s_is_word_of, defScope s_is_word_of, [], []⟩
def d_is_deed : DefD := ⟨("is_deed", none), "is_deed", "is_deed", defArgs s_is_deed, defBody s_is_deed, defScope s_is_deed, [], []⟩
def d_check_program : DefD := ⟨("check_program", none), "check_program", "check_program", defArgs s_check_program, defBody s_check_program, defScope s_check_program, [], []⟩
def d_holdings : DefD := ⟨("holdings", none), "holdings", "holdings", defArgs s_holdings, defBody s_holdings, defScope s_holdings, [], []⟩
def d_keeps : DefD := ⟨("keeps", none), "keeps", "keeps", defArgs s_keeps, defBody s_keeps, defScope s_keeps, [], []⟩
def d_totals : DefD := ⟨("totals", none), "totals", "totals", defArgs s_totals, defBody s_totals, defScope s_totals, [], []⟩
def d_do_make : DefD := ⟨("do_make", none), "do_make", "do_make", defArgs s_do_make, defBody s_do_make, defScope s_do_make, [], []⟩
def d_do_num : DefD := ⟨("do_num", none), "do_num", "do_num", defArgs s_do_num, defBody s_do_num, defScope s_do_num, [], []⟩
def d_do_copy : DefD := ⟨("do_copy", none), "do_copy", "do_copy", defArgs s_do_copy, defBody s_do_copy, defScope s_do_copy, [], []⟩
def d_do_drop : DefD := ⟨("do_drop", none), "do_drop", "do_drop", defArgs s_do_drop, defBody s_do_drop, defScope s_do_drop, [], []⟩
def d_do_put : DefD := ⟨("do_put", none), "do_put", "do_put", defArgs s_do_put, defBody s_do_put, defScope s_do_put, [], []⟩
def d_do_take : DefD := ⟨("do_take", none), "do_take", "do_take", defArgs s_do_take, defBody s_do_take, defScope s_do_take, [], []⟩
def d_do_cut : DefD := ⟨("do_cut", none), "do_cut", "do_cut", defArgs s_do_cut, defBody s_do_cut, defScope s_do_cut, [], []⟩
def d_do_watch : DefD := ⟨("do_watch", none), "do_watch", "do_watch", defArgs s_do_watch, defBody s_do_watch, defScope s_do_watch, [], []⟩
def d_do_last : DefD := ⟨("do_last", none), "do_last", "do_last", defArgs s_do_last, defBody s_do_last, defScope s_do_last, [], []⟩
def d_do_ask : DefD := ⟨("do_ask", none), "do_ask", "do_ask", defArgs s_do_ask, defBody s_do_ask, defScope s_do_ask, [], []⟩
def d_do_settle : DefD := ⟨("do_settle", none), "do_settle", "do_settle", defArgs s_do_settle, defBody s_do_settle, defScope s_do_settle, [], []⟩
def d_do_say : DefD := ⟨("do_say", none), "do_say", "do_say", defArgs s_do_say, defBody s_do_say, defScope s_do_say, [], []⟩
def d_act : DefD := ⟨("act", none), "act", "act", defArgs s_act, defBody s_act, defScope s_act, [], []⟩
def d_snapshot : DefD := ⟨("snapshot", none), "snapshot", "snapshot", defArgs s_snapshot, defBody s_snapshot, defScope s_snapshot, [], []⟩
def d_compared : DefD := ⟨("compared", none), "compared", "compared", defArgs s_compared, defBody s_compared, defScope s_compared, [], []⟩
def d_do_all : DefD := ⟨("do_all", none), "do_all", "do_all", defArgs s_do_all, defBody s_do_all, defScope s_do_all, [], []⟩
def d_growing : DefD := ⟨("growing", none), "growing", "growing", defArgs s_growing, defBody s_growing, defScope s_growing, [], []⟩
def d_grows : DefD := ⟨("grows", none), "grows", "grows", defArgs s_grows, defBody s_grows, defScope s_grows, [], []⟩
def d_keeps_another : DefD := ⟨("keeps_another", none), "keeps_another", "keeps_another", defArgs s_keeps_another, defBody s_keeps_another, defScope s_keeps_another, [], []⟩
def d_leak : DefD := ⟨("leak", none), "leak", "leak", defArgs s_leak, defBody s_leak, defScope s_leak, [], []⟩
def d__law_mix : DefD := ⟨("_law_mix", none), "_law_mix", "_law_mix", defArgs s__law_mix, defBody s__law_mix, defScope s__law_mix, [], []⟩
def d__law_next : DefD := ⟨("_law_next", none), "_law_next", "_law_next", defArgs s__law_next, defBody s__law_next, defScope s__law_next, [], []⟩
def d__law_first : DefD := ⟨("_law_first", none), "_law_first", "_law_first", defArgs s__law_first, defBody s__law_first, defScope s__law_first, [], []⟩
def d__law_down : DefD := ⟨("_law_down", none), "_law_down", "_law_down", defArgs s__law_down, defBody s__law_down, defScope s__law_down, [], []⟩
def d_law : DefD := ⟨("law", none), "law", "law", defArgs s_law, defBody s_law, defScope s_law, [], []⟩
def d_Thing_init : DefD := ⟨("Thing", some "__init__"), "__init__", "Thing.__init__", defArgs s_Thing_init, defBody s_Thing_init, defScope s_Thing_init, [], []⟩
def d_Thing_has : DefD := ⟨("Thing", some "has"), "has", "Thing.has", defArgs s_Thing_has, defBody s_Thing_has, defScope s_Thing_has, [], []⟩
def d_Thing_fits : DefD := ⟨("Thing", some "fits"), "fits", "Thing.fits", defArgs s_Thing_fits, defBody s_Thing_fits, defScope s_Thing_fits, [], []⟩
def d_Thing_held : DefD := ⟨("Thing", some "held"), "held", "Thing.held", defArgs s_Thing_held, defBody s_Thing_held, defScope s_Thing_held, [], []⟩
def d_Holder_init : DefD := ⟨("Holder", some "__init__"), "__init__", "Holder.__init__", defArgs s_Holder_init, defBody s_Holder_init, defScope s_Holder_init, [], []⟩
def d_Holder_has : DefD := ⟨("Holder", some "has"), "has", "Holder.has", defArgs s_Holder_has, defBody s_Holder_has, defScope s_Holder_has, [], []⟩
def d_Holder_at : DefD := ⟨("Holder", some "at"), "at", "Holder.at", defArgs s_Holder_at, defBody s_Holder_at, defScope s_Holder_at, [], []⟩
def d_Holder_put : DefD := ⟨("Holder", some "put"), "put", "Holder.put", defArgs s_Holder_put, defBody s_Holder_put, defScope s_Holder_put, [], []⟩
def d_Holder_cut : DefD := ⟨("Holder", some "cut"), "cut", "Holder.cut", defArgs s_Holder_cut, defBody s_Holder_cut, defScope s_Holder_cut, [], []⟩
def d_Holder_held : DefD := ⟨("Holder", some "held"), "held", "Holder.held", defArgs s_Holder_held, defBody s_Holder_held, defScope s_Holder_held, [], []⟩
def d_Holder_shown : DefD := ⟨("Holder", some "shown"), "shown", "Holder.shown", defArgs s_Holder_shown, defBody s_Holder_shown, defScope s_Holder_shown, [], []⟩
def d_Holder_size : DefD := ⟨("Holder", some "size"), "size", "Holder.size", defArgs s_Holder_size, defBody s_Holder_size, defScope s_Holder_size, [], []⟩
def d_Holder_fits : DefD := ⟨("Holder", some "fits"), "fits", "Thing.fits", defArgs s_Thing_fits, defBody s_Thing_fits, defScope s_Thing_fits, [], []⟩
def d_Record_init : DefD := ⟨("Record", some "__init__"), "__init__", "Record.__init__", defArgs s_Record_init, defBody s_Record_init, defScope s_Record_init, [], []⟩
def d_Record_fits : DefD := ⟨("Record", some "fits"), "fits", "Record.fits", defArgs s_Record_fits, defBody s_Record_fits, defScope s_Record_fits, [], []⟩
def d_Record_cut : DefD := ⟨("Record", some "cut"), "cut", "Record.cut", defArgs s_Record_cut, defBody s_Record_cut, defScope s_Record_cut, [], []⟩
def d_Record_has : DefD := ⟨("Record", some "has"), "has", "Holder.has", defArgs s_Holder_has, defBody s_Holder_has, defScope s_Holder_has, [], []⟩
def d_Record_at : DefD := ⟨("Record", some "at"), "at", "Holder.at", defArgs s_Holder_at, defBody s_Holder_at, defScope s_Holder_at, [], []⟩
def d_Record_put : DefD := ⟨("Record", some "put"), "put", "Holder.put", defArgs s_Holder_put, defBody s_Holder_put, defScope s_Holder_put, [], []⟩
def d_Record_held : DefD := ⟨("Record", some "held"), "held", "Holder.held", defArgs s_Holder_held, defBody s_Holder_held, defScope s_Holder_held, [], []⟩
def d_Record_shown : DefD := ⟨("Record", some "shown"), "shown", "Holder.shown", defArgs s_Holder_shown, defBody s_Holder_shown, defScope s_Holder_shown, [], []⟩
def d_Record_size : DefD := ⟨("Record", some "size"), "size", "Holder.size", defArgs s_Holder_size, defBody s_Holder_size, defScope s_Holder_size, [], []⟩
def d_Row_init : DefD := ⟨("Row", some "__init__"), "__init__", "Row.__init__", defArgs s_Row_init, defBody s_Row_init, defScope s_Row_init, [], []⟩
def d_Row_has : DefD := ⟨("Row", some "has"), "has", "Row.has", defArgs s_Row_has, defBody s_Row_has, defScope s_Row_has, [], []⟩
def d_Row_fits : DefD := ⟨("Row", some "fits"), "fits", "Row.fits", defArgs s_Row_fits, defBody s_Row_fits, defScope s_Row_fits, [], []⟩
def d_Row_put : DefD := ⟨("Row", some "put"), "put", "Row.put", defArgs s_Row_put, defBody s_Row_put, defScope s_Row_put, [], []⟩
def d_Row_shown : DefD := ⟨("Row", some "shown"), "shown", "Row.shown", defArgs s_Row_shown, defBody s_Row_shown, defScope s_Row_shown, [], []⟩
def d_Row_at : DefD := ⟨("Row", some "at"), "at", "Holder.at", defArgs s_Holder_at, defBody s_Holder_at, defScope s_Holder_at, [], []⟩
def d_Row_cut : DefD := ⟨("Row", some "cut"), "cut", "Holder.cut", defArgs s_Holder_cut, defBody s_Holder_cut, defScope s_Holder_cut, [], []⟩
def d_Row_held : DefD := ⟨("Row", some "held"), "held", "Holder.held", defArgs s_Holder_held, defBody s_Holder_held, defScope s_Holder_held, [], []⟩
def d_Row_size : DefD := ⟨("Row", some "size"), "size", "Holder.size", defArgs s_Holder_size, defBody s_Holder_size, defScope s_Holder_size, [], []⟩
def d_Book_init : DefD := ⟨("Book", some "__init__"), "__init__", "Book.__init__", defArgs s_Book_init, defBody s_Book_init, defScope s_Book_init, [], []⟩
def d_Book_fits : DefD := ⟨("Book", some "fits"), "fits", "Book.fits", defArgs s_Book_fits, defBody s_Book_fits, defScope s_Book_fits, [], []⟩
def d_Book_size : DefD := ⟨("Book", some "size"), "size", "Book.size", defArgs s_Book_size, defBody s_Book_size, defScope s_Book_size, [], []⟩
def d_Book_has : DefD := ⟨("Book", some "has"), "has", "Holder.has", defArgs s_Holder_has, defBody s_Holder_has, defScope s_Holder_has, [], []⟩
def d_Book_at : DefD := ⟨("Book", some "at"), "at", "Holder.at", defArgs s_Holder_at, defBody s_Holder_at, defScope s_Holder_at, [], []⟩
def d_Book_put : DefD := ⟨("Book", some "put"), "put", "Holder.put", defArgs s_Holder_put, defBody s_Holder_put, defScope s_Holder_put, [], []⟩
def d_Book_cut : DefD := ⟨("Book", some "cut"), "cut", "Holder.cut", defArgs s_Holder_cut, defBody s_Holder_cut, defScope s_Holder_cut, [], []⟩
def d_Book_held : DefD := ⟨("Book", some "held"), "held", "Holder.held", defArgs s_Holder_held, defBody s_Holder_held, defScope s_Holder_held, [], []⟩
def d_Book_shown : DefD := ⟨("Book", some "shown"), "shown", "Holder.shown", defArgs s_Holder_shown, defBody s_Holder_shown, defScope s_Holder_shown, [], []⟩
def d_Watch_init : DefD := ⟨("Watch", some "__init__"), "__init__", "Watch.__init__", defArgs s_Watch_init, defBody s_Watch_init, defScope s_Watch_init, [], []⟩
def d_Watch_shown : DefD := ⟨("Watch", some "shown"), "shown", "Watch.shown", defArgs s_Watch_shown, defBody s_Watch_shown, defScope s_Watch_shown, [], []⟩
def d_Watch_size : DefD := ⟨("Watch", some "size"), "size", "Watch.size", defArgs s_Watch_size, defBody s_Watch_size, defScope s_Watch_size, [], []⟩
def d_Watch_has : DefD := ⟨("Watch", some "has"), "has", "Thing.has", defArgs s_Thing_has, defBody s_Thing_has, defScope s_Thing_has, [], []⟩
def d_Watch_fits : DefD := ⟨("Watch", some "fits"), "fits", "Thing.fits", defArgs s_Thing_fits, defBody s_Thing_fits, defScope s_Thing_fits, [], []⟩
def d_Watch_held : DefD := ⟨("Watch", some "held"), "held", "Thing.held", defArgs s_Thing_held, defBody s_Thing_held, defScope s_Thing_held, [], []⟩
def d_Picture_init : DefD := ⟨("Picture", some "__init__"), "__init__", "Picture.__init__", defArgs s_Picture_init, defBody s_Picture_init, defScope s_Picture_init, [], []⟩
def d_Picture_check_thing : DefD := ⟨("Picture", some "check_thing"), "check_thing", "Picture.check_thing", defArgs s_Picture_check_thing, defBody s_Picture_check_thing, defScope s_Picture_check_thing, [], []⟩
def d_Picture_arrivals : DefD := ⟨("Picture", some "arrivals"), "arrivals", "Picture.arrivals", defArgs s_Picture_arrivals, defBody s_Picture_arrivals, defScope s_Picture_arrivals, [], []⟩
def d_Picture_kept_by : DefD := ⟨("Picture", some "kept_by"), "kept_by", "Picture.kept_by", defArgs s_Picture_kept_by, defBody s_Picture_kept_by, defScope s_Picture_kept_by, [], []⟩
def d_Picture_total_of : DefD := ⟨("Picture", some "total_of"), "total_of", "Picture.total_of", defArgs s_Picture_total_of, defBody s_Picture_total_of, defScope s_Picture_total_of, [], []⟩
def d_Heap_init : DefD := ⟨("Heap", some "__init__"), "__init__", "Heap.__init__", defArgs s_Heap_init, defBody s_Heap_init, defScope s_Heap_init, [], []⟩
def d_Heap_thing_of : DefD := ⟨("Heap", some "thing_of"), "thing_of", "Heap.thing_of", defArgs s_Heap_thing_of, defBody s_Heap_thing_of, defScope s_Heap_thing_of, [], []⟩
def d_Heap_bring : DefD := ⟨("Heap", some "bring"), "bring", "Heap.bring", defArgs s_Heap_bring, defBody s_Heap_bring, defScope s_Heap_bring, [], []⟩
def d_Heap_forget : DefD := ⟨("Heap", some "forget"), "forget", "Heap.forget", defArgs s_Heap_forget, defBody s_Heap_forget, defScope s_Heap_forget, [], []⟩
def d_Heap_store : DefD := ⟨("Heap", some "store"), "store", "Heap.store", defArgs s_Heap_store, defBody s_Heap_store, defScope s_Heap_store, [], []⟩
def d_Heap_strike : DefD := ⟨("Heap", some "strike"), "strike", "Heap.strike", defArgs s_Heap_strike, defBody s_Heap_strike, defScope s_Heap_strike, [], []⟩
def d_Heap_named : DefD := ⟨("Heap", some "named"), "named", "Heap.named", defArgs s_Heap_named, defBody s_Heap_named, defScope s_Heap_named, [], []⟩
def d_Heap_due_ones : DefD := ⟨("Heap", some "due_ones"), "due_ones", "Heap.due_ones", defArgs s_Heap_due_ones, defBody s_Heap_due_ones, defScope s_Heap_due_ones, [], []⟩
def d_Heap_spread : DefD := ⟨("Heap", some "spread"), "spread", "Heap.spread", defArgs s_Heap_spread, defBody s_Heap_spread, defScope s_Heap_spread, [], []⟩
def d_Heap_reach : DefD := ⟨("Heap", some "reach"), "reach", "Heap.reach", defArgs s_Heap_reach, defBody s_Heap_reach, defScope s_Heap_reach, [], []⟩
def d_Heap_kept : DefD := ⟨("Heap", some "kept"), "kept", "Heap.kept", defArgs s_Heap_kept, defBody s_Heap_kept, defScope s_Heap_kept, [], []⟩
def d_Heap_tell_watches : DefD := ⟨("Heap", some "tell_watches"), "tell_watches", "Heap.tell_watches", defArgs s_Heap_tell_watches, defBody s_Heap_tell_watches, defScope s_Heap_tell_watches, [], []⟩
def d_Heap_perform_last : DefD := ⟨("Heap", some "perform_last"), "perform_last", "Heap.perform_last", defArgs s_Heap_perform_last, defBody s_Heap_perform_last, defScope s_Heap_perform_last, [], []⟩
def d_Heap_photo : DefD := ⟨("Heap", some "photo"), "photo", "Heap.photo", defArgs s_Heap_photo, defBody s_Heap_photo, defScope s_Heap_photo, [], []⟩
def d_Plain_init : DefD := ⟨("Plain", some "__init__"), "__init__", "Plain.__init__", defArgs s_Plain_init, defBody s_Plain_init, defScope s_Plain_init, [], []⟩
def d_Plain_do : DefD := ⟨("Plain", some "do"), "do", "Plain.do", defArgs s_Plain_do, defBody s_Plain_do, defScope s_Plain_do, [], []⟩
def d_Plain_reach : DefD := ⟨("Plain", some "reach"), "reach", "Plain.reach", defArgs s_Plain_reach, defBody s_Plain_reach, defScope s_Plain_reach, [], []⟩
def d_Plain_kept : DefD := ⟨("Plain", some "kept"), "kept", "Plain.kept", defArgs s_Plain_kept, defBody s_Plain_kept, defScope s_Plain_kept, [], []⟩
def d_Plain_photo : DefD := ⟨("Plain", some "photo"), "photo", "Plain.photo", defArgs s_Plain_photo, defBody s_Plain_photo, defScope s_Plain_photo, [], []⟩
def fn0 : List DefD := [d_as_value, d_is_thing, d_new_thing, d_is_within, d_is_word_of, d_is_deed, d_check_program, d_holdings, d_keeps, d_totals, d_do_make, d_do_num, d_do_copy, d_do_drop, d_do_put, d_do_take, d_do_cut, d_do_watch, d_do_last, d_do_ask, d_do_settle, d_do_say, d_act, d_snapshot, d_compared]
def fn1 : List DefD := [d_do_all, d_growing, d_grows, d_keeps_another, d_leak, d__law_mix, d__law_next, d__law_first, d__law_down, d_law, d_Thing_init, d_Thing_has, d_Thing_fits, d_Thing_held, d_Holder_init, d_Holder_has, d_Holder_at, d_Holder_put, d_Holder_cut, d_Holder_held, d_Holder_shown, d_Holder_size, d_Holder_fits, d_Record_init, d_Record_fits]
def fn2 : List DefD := [d_Record_cut, d_Record_has, d_Record_at, d_Record_put, d_Record_held, d_Record_shown, d_Record_size, d_Row_init, d_Row_has, d_Row_fits, d_Row_put, d_Row_shown, d_Row_at, d_Row_cut, d_Row_held, d_Row_size, d_Book_init, d_Book_fits, d_Book_size, d_Book_has, d_Book_at, d_Book_put, d_Book_cut, d_Book_held, d_Book_shown]
def fn3 : List DefD := [d_Watch_init, d_Watch_shown, d_Watch_size, d_Watch_has, d_Watch_fits, d_Watch_held, d_Picture_init, d_Picture_check_thing, d_Picture_arrivals, d_Picture_kept_by, d_Picture_total_of, d_Heap_init, d_Heap_thing_of, d_Heap_bring, d_Heap_forget, d_Heap_store, d_Heap_strike, d_Heap_named, d_Heap_due_ones, d_Heap_spread, d_Heap_reach, d_Heap_kept, d_Heap_tell_watches, d_Heap_perform_last, d_Heap_photo]
def fn4 : List DefD := [d_Plain_init, d_Plain_do, d_Plain_reach, d_Plain_kept, d_Plain_photo]
def fn : List DefD := fn0 ++ (fn1 ++ (fn2 ++ (fn3 ++ (fn4))))
def fa0 : List Fa := [.glo "as_value", .glo "is_thing", .glo "new_thing", .glo "is_within", .glo "is_word_of", .glo "is_deed", .glo "check_program", .glo "holdings", .glo "keeps", .glo "totals", .glo "do_make", .glo "do_num", .glo "do_copy", .glo "do_drop", .glo "do_put", .glo "do_take", .glo "do_cut", .glo "do_watch", .glo "do_last", .glo "do_ask", .glo "do_settle", .glo "do_say", .glo "act", .glo "snapshot", .glo "compared"]
def fa1 : List Fa := [.glo "do_all", .glo "growing", .glo "grows", .glo "keeps_another", .glo "leak", .glo "_law_mix", .glo "_law_next", .glo "_law_first", .glo "_law_down", .glo "law", .glo "LETTERS", .glo "KINDS", .int "ROW_MOST" 8, .int "BOOK_MOST" 6, .int "BOOK_KEYS" 10, .glo "NAMES", .int "MOST_DEEDS" 120, .int "MOST_NUMBER" 99, .int "MOST_PART" 9, .glo "SHAPES", .str "CANNOT" "no", .glo "ACTS", .int "LEAST_PHOTOS" 2, .int "MOST_PHOTOS" 8, .glo "__builtins__"]
def fa2 : List Fa := [.glo "Thing", .cls "Thing", .glo "Holder", .cls "Holder", .glo "Record", .cls "Record", .glo "Row", .cls "Row", .glo "Book", .cls "Book", .glo "Watch", .cls "Watch", .glo "Picture", .cls "Picture", .glo "Heap", .cls "Heap", .glo "Plain", .cls "Plain", .free "len", .free "isinstance", .free "sorted", .free "list", .free "range", .free "dict", .free "max"]
def fa3 : List Fa := [.free "min", .free "zip", .free "all", .free "enumerate", .free "str", .free "int", .free "bool", .free "tuple", .free "sum", .free "any", .free "set", .mkr "Record", .mkr "Row", .mkr "Book", .mkr "Watch", .mkr "Picture", .mkr "Heap", .mkr "Plain", .noat "Record" "number", .noat "Record" "kind", .noat "Record" "got_last", .noat "Record" "due", .noat "Record" "goal", .noat "Record" "cells", .noat "Row" "number"]
def fa4 : List Fa := [.noat "Row" "kind", .noat "Row" "got_last", .noat "Row" "due", .noat "Row" "goal", .noat "Row" "cells", .noat "Book" "number", .noat "Book" "kind", .noat "Book" "got_last", .noat "Book" "due", .noat "Book" "goal", .noat "Book" "cells", .noat "Watch" "number", .noat "Watch" "kind", .noat "Watch" "got_last", .noat "Watch" "due", .noat "Watch" "goal", .noat "Watch" "sees", .noat "Picture" "entries", .noat "Picture" "links", .noat "Picture" "sizes", .noat "Heap" "names", .noat "Heap" "things", .noat "Heap" "made", .noat "Heap" "change", .noat "Plain" "heap"]
def fa5 : List Fa := [.meth "Record" "fits", .meth "Record" "cut", .meth "Record" "has", .meth "Record" "at", .meth "Record" "put", .meth "Record" "held", .meth "Record" "shown", .meth "Record" "size", .meth "Row" "has", .meth "Row" "fits", .meth "Row" "put", .meth "Row" "shown", .meth "Row" "at", .meth "Row" "cut", .meth "Row" "held", .meth "Row" "size", .meth "Book" "fits", .meth "Book" "size", .meth "Book" "has", .meth "Book" "at", .meth "Book" "put", .meth "Book" "cut", .meth "Book" "held", .meth "Book" "shown", .meth "Watch" "shown"]
def fa6 : List Fa := [.meth "Watch" "size", .meth "Watch" "has", .meth "Watch" "fits", .meth "Watch" "held", .meth "Picture" "check_thing", .meth "Picture" "arrivals", .meth "Picture" "kept_by", .meth "Picture" "total_of", .meth "Heap" "thing_of", .meth "Heap" "bring", .meth "Heap" "forget", .meth "Heap" "store", .meth "Heap" "strike", .meth "Heap" "named", .meth "Heap" "due_ones", .meth "Heap" "spread", .meth "Heap" "reach", .meth "Heap" "kept", .meth "Heap" "tell_watches", .meth "Heap" "perform_last", .meth "Heap" "photo", .meth "Plain" "do", .meth "Plain" "reach", .meth "Plain" "kept", .meth "Plain" "photo"]
def fa : List Fa := fa0 ++ (fa1 ++ (fa2 ++ (fa3 ++ (fa4 ++ (fa5 ++ (fa6))))))
def fx0 : List Fx := [.cfun "Thing" "__init__", .cfun "Holder" "__init__", .kit "Record" "Watch" false, .isi "Record", .kit "Row" "Watch" false, .isi "Row", .kit "Book" "Watch" false, .isi "Book", .kit "Watch" "Watch" true, .isi "Watch", .kitN "NoneType" "Watch" false, .tup "LETTERS" ["a", "b", "c", "d"], .tup "KINDS" ["record", "row", "book"], .tup "NAMES" ["p", "q", "r", "s", "t", "u", "v", "w"], .ttup "SHAPES" "make" ["name", "kind"], .ttup "SHAPES" "num" ["name", "number"], .ttup "SHAPES" "copy" ["name", "name"], .ttup "SHAPES" "drop" ["name"], .ttup "SHAPES" "put" ["name", "part", "name"], .ttup "SHAPES" "take" ["name", "name", "part"], .ttup "SHAPES" "cut" ["name", "part"], .ttup "SHAPES" "watch" ["name", "name"], .ttup "SHAPES" "last" ["name", "goal"], .ttup "SHAPES" "ask" ["name", "name"], .ttup "SHAPES" "settle" []]
def fx1 : List Fx := [.ttup "SHAPES" "say" ["name"], .tdef "ACTS" "make" "do_make", .tdef "ACTS" "num" "do_num", .tdef "ACTS" "copy" "do_copy", .tdef "ACTS" "drop" "do_drop", .tdef "ACTS" "put" "do_put", .tdef "ACTS" "take" "do_take", .tdef "ACTS" "cut" "do_cut", .tdef "ACTS" "watch" "do_watch", .tdef "ACTS" "last" "do_last", .tdef "ACTS" "ask" "do_ask", .tdef "ACTS" "settle" "do_settle", .tdef "ACTS" "say" "do_say"]
def fx : List Fx := fx0 ++ (fx1)
def ts : List Tab := [((fun K => ga K "SHAPES"), ["make", "num", "copy", "drop", "put", "take", "cut", "watch", "last", "ask", "settle", "say"]), ((fun K => ga K "ACTS"), ["make", "num", "copy", "drop", "put", "take", "cut", "watch", "last", "ask", "settle", "say"])]
def tl : List Addr := []
abbrev Tx (w : World) (K : PySem.W.Frag) (mg : Str → Option Value) : Prop := Says fa fn ts fx w K mg
section
variable {w : World} {K : PySem.W.Frag} {mg : Str → Option Value}
theorem g_as_value (T : Tx w K mg) : mg "as_value" = some (.ref (ga K "as_value")) := T.glo 0
theorem g_is_thing (T : Tx w K mg) : mg "is_thing" = some (.ref (ga K "is_thing")) := T.glo 1
theorem g_new_thing (T : Tx w K mg) : mg "new_thing" = some (.ref (ga K "new_thing")) := T.glo 2
theorem g_is_within (T : Tx w K mg) : mg "is_within" = some (.ref (ga K "is_within")) := T.glo 3
theorem g_is_word_of (T : Tx w K mg) : mg "is_word_of" = some (.ref (ga K "is_word_of")) := T.glo 4
theorem g_is_deed (T : Tx w K mg) : mg "is_deed" = some (.ref (ga K "is_deed")) := T.glo 5
theorem g_check_program (T : Tx w K mg) : mg "check_program" = some (.ref (ga K "check_program")) := T.glo 6
theorem g_holdings (T : Tx w K mg) : mg "holdings" = some (.ref (ga K "holdings")) := T.glo 7
theorem g_keeps (T : Tx w K mg) : mg "keeps" = some (.ref (ga K "keeps")) := T.glo 8
theorem g_totals (T : Tx w K mg) : mg "totals" = some (.ref (ga K "totals")) := T.glo 9
theorem g_do_make (T : Tx w K mg) : mg "do_make" = some (.ref (ga K "do_make")) := T.glo 10
theorem g_do_num (T : Tx w K mg) : mg "do_num" = some (.ref (ga K "do_num")) := T.glo 11
theorem g_do_copy (T : Tx w K mg) : mg "do_copy" = some (.ref (ga K "do_copy")) := T.glo 12
theorem g_do_drop (T : Tx w K mg) : mg "do_drop" = some (.ref (ga K "do_drop")) := T.glo 13
theorem g_do_put (T : Tx w K mg) : mg "do_put" = some (.ref (ga K "do_put")) := T.glo 14
theorem g_do_take (T : Tx w K mg) : mg "do_take" = some (.ref (ga K "do_take")) := T.glo 15
theorem g_do_cut (T : Tx w K mg) : mg "do_cut" = some (.ref (ga K "do_cut")) := T.glo 16
theorem g_do_watch (T : Tx w K mg) : mg "do_watch" = some (.ref (ga K "do_watch")) := T.glo 17
theorem g_do_last (T : Tx w K mg) : mg "do_last" = some (.ref (ga K "do_last")) := T.glo 18
theorem g_do_ask (T : Tx w K mg) : mg "do_ask" = some (.ref (ga K "do_ask")) := T.glo 19
theorem g_do_settle (T : Tx w K mg) : mg "do_settle" = some (.ref (ga K "do_settle")) := T.glo 20
theorem g_do_say (T : Tx w K mg) : mg "do_say" = some (.ref (ga K "do_say")) := T.glo 21
theorem g_act (T : Tx w K mg) : mg "act" = some (.ref (ga K "act")) := T.glo 22
theorem g_snapshot (T : Tx w K mg) : mg "snapshot" = some (.ref (ga K "snapshot")) := T.glo 23
theorem g_compared (T : Tx w K mg) : mg "compared" = some (.ref (ga K "compared")) := T.glo 24
theorem g_do_all (T : Tx w K mg) : mg "do_all" = some (.ref (ga K "do_all")) := T.glo 25
theorem g_growing (T : Tx w K mg) : mg "growing" = some (.ref (ga K "growing")) := T.glo 26
theorem g_grows (T : Tx w K mg) : mg "grows" = some (.ref (ga K "grows")) := T.glo 27
theorem g_keeps_another (T : Tx w K mg) : mg "keeps_another" = some (.ref (ga K "keeps_another")) := T.glo 28
theorem g_leak (T : Tx w K mg) : mg "leak" = some (.ref (ga K "leak")) := T.glo 29
theorem g__law_mix (T : Tx w K mg) : mg "_law_mix" = some (.ref (ga K "_law_mix")) := T.glo 30
theorem g__law_next (T : Tx w K mg) : mg "_law_next" = some (.ref (ga K "_law_next")) := T.glo 31
theorem g__law_first (T : Tx w K mg) : mg "_law_first" = some (.ref (ga K "_law_first")) := T.glo 32
theorem g__law_down (T : Tx w K mg) : mg "_law_down" = some (.ref (ga K "_law_down")) := T.glo 33
theorem g_law (T : Tx w K mg) : mg "law" = some (.ref (ga K "law")) := T.glo 34
theorem g_LETTERS (T : Tx w K mg) : mg "LETTERS" = some (.ref (ga K "LETTERS")) := T.glo 35
theorem g_KINDS (T : Tx w K mg) : mg "KINDS" = some (.ref (ga K "KINDS")) := T.glo 36
theorem i_ROW_MOST (T : Tx w K mg) : ∃ t, mg "ROW_MOST" = some (.int 8 t) := T.int 37
theorem i_BOOK_MOST (T : Tx w K mg) : ∃ t, mg "BOOK_MOST" = some (.int 6 t) := T.int 38
theorem i_BOOK_KEYS (T : Tx w K mg) : ∃ t, mg "BOOK_KEYS" = some (.int 10 t) := T.int 39
theorem g_NAMES (T : Tx w K mg) : mg "NAMES" = some (.ref (ga K "NAMES")) := T.glo 40
theorem i_MOST_DEEDS (T : Tx w K mg) : ∃ t, mg "MOST_DEEDS" = some (.int 120 t) := T.int 41
theorem i_MOST_NUMBER (T : Tx w K mg) : ∃ t, mg "MOST_NUMBER" = some (.int 99 t) := T.int 42
theorem i_MOST_PART (T : Tx w K mg) : ∃ t, mg "MOST_PART" = some (.int 9 t) := T.int 43
theorem g_SHAPES (T : Tx w K mg) : mg "SHAPES" = some (.ref (ga K "SHAPES")) := T.glo 44
theorem i_CANNOT (T : Tx w K mg) : ∃ t, mg "CANNOT" = some (.str "no" t) := T.str 45
theorem g_ACTS (T : Tx w K mg) : mg "ACTS" = some (.ref (ga K "ACTS")) := T.glo 46
theorem i_LEAST_PHOTOS (T : Tx w K mg) : ∃ t, mg "LEAST_PHOTOS" = some (.int 2 t) := T.int 47
theorem i_MOST_PHOTOS (T : Tx w K mg) : ∃ t, mg "MOST_PHOTOS" = some (.int 8 t) := T.int 48
theorem g___builtins__ (T : Tx w K mg) : mg "__builtins__" = some (.ref (ga K "__builtins__")) := T.glo 49
theorem g_Thing (T : Tx w K mg) : mg "Thing" = some (.ref (ga K "Thing")) := T.glo 50
theorem c_Thing (T : Tx w K mg) : Cls K (ga K "Thing") := T.cls 51
theorem g_Holder (T : Tx w K mg) : mg "Holder" = some (.ref (ga K "Holder")) := T.glo 52
theorem c_Holder (T : Tx w K mg) : Cls K (ga K "Holder") := T.cls 53
theorem g_Record (T : Tx w K mg) : mg "Record" = some (.ref (ga K "Record")) := T.glo 54
theorem c_Record (T : Tx w K mg) : Cls K (ga K "Record") := T.cls 55
theorem g_Row (T : Tx w K mg) : mg "Row" = some (.ref (ga K "Row")) := T.glo 56
theorem c_Row (T : Tx w K mg) : Cls K (ga K "Row") := T.cls 57
theorem g_Book (T : Tx w K mg) : mg "Book" = some (.ref (ga K "Book")) := T.glo 58
theorem c_Book (T : Tx w K mg) : Cls K (ga K "Book") := T.cls 59
theorem g_Watch (T : Tx w K mg) : mg "Watch" = some (.ref (ga K "Watch")) := T.glo 60
theorem c_Watch (T : Tx w K mg) : Cls K (ga K "Watch") := T.cls 61
theorem g_Picture (T : Tx w K mg) : mg "Picture" = some (.ref (ga K "Picture")) := T.glo 62
theorem c_Picture (T : Tx w K mg) : Cls K (ga K "Picture") := T.cls 63
theorem g_Heap (T : Tx w K mg) : mg "Heap" = some (.ref (ga K "Heap")) := T.glo 64
theorem c_Heap (T : Tx w K mg) : Cls K (ga K "Heap") := T.cls 65
theorem g_Plain (T : Tx w K mg) : mg "Plain" = some (.ref (ga K "Plain")) := T.glo 66
theorem c_Plain (T : Tx w K mg) : Cls K (ga K "Plain") := T.cls 67
theorem z_len (T : Tx w K mg) : mg "len" = none := T.free 68
theorem z_isinstance (T : Tx w K mg) : mg "isinstance" = none := T.free 69
theorem z_sorted (T : Tx w K mg) : mg "sorted" = none := T.free 70
theorem z_list (T : Tx w K mg) : mg "list" = none := T.free 71
theorem z_range (T : Tx w K mg) : mg "range" = none := T.free 72
theorem z_dict (T : Tx w K mg) : mg "dict" = none := T.free 73
theorem z_max (T : Tx w K mg) : mg "max" = none := T.free 74
theorem z_min (T : Tx w K mg) : mg "min" = none := T.free 75
theorem z_zip (T : Tx w K mg) : mg "zip" = none := T.free 76
theorem z_all (T : Tx w K mg) : mg "all" = none := T.free 77
theorem z_enumerate (T : Tx w K mg) : mg "enumerate" = none := T.free 78
theorem z_str (T : Tx w K mg) : mg "str" = none := T.free 79
theorem z_int (T : Tx w K mg) : mg "int" = none := T.free 80
theorem z_bool (T : Tx w K mg) : mg "bool" = none := T.free 81
theorem z_tuple (T : Tx w K mg) : mg "tuple" = none := T.free 82
theorem z_sum (T : Tx w K mg) : mg "sum" = none := T.free 83
theorem z_any (T : Tx w K mg) : mg "any" = none := T.free 84
theorem z_set (T : Tx w K mg) : mg "set" = none := T.free 85
theorem m_Record (T : Tx w K mg) : Mk K (ga K "Record") (ma K (ga K "Record") "__init__") := T.mkr 86
theorem m_Row (T : Tx w K mg) : Mk K (ga K "Row") (ma K (ga K "Row") "__init__") := T.mkr 87
theorem m_Book (T : Tx w K mg) : Mk K (ga K "Book") (ma K (ga K "Book") "__init__") := T.mkr 88
theorem m_Watch (T : Tx w K mg) : Mk K (ga K "Watch") (ma K (ga K "Watch") "__init__") := T.mkr 89
theorem m_Picture (T : Tx w K mg) : Mk K (ga K "Picture") (ma K (ga K "Picture") "__init__") := T.mkr 90
theorem m_Heap (T : Tx w K mg) : Mk K (ga K "Heap") (ma K (ga K "Heap") "__init__") := T.mkr 91
theorem m_Plain (T : Tx w K mg) : Mk K (ga K "Plain") (ma K (ga K "Plain") "__init__") := T.mkr 92
theorem n_Record_number (T : Tx w K mg) : NoAttr K (ga K "Record") "number" := T.noat 93
theorem n_Record_kind (T : Tx w K mg) : NoAttr K (ga K "Record") "kind" := T.noat 94
theorem n_Record_got_last (T : Tx w K mg) : NoAttr K (ga K "Record") "got_last" := T.noat 95
theorem n_Record_due (T : Tx w K mg) : NoAttr K (ga K "Record") "due" := T.noat 96
theorem n_Record_goal (T : Tx w K mg) : NoAttr K (ga K "Record") "goal" := T.noat 97
theorem n_Record_cells (T : Tx w K mg) : NoAttr K (ga K "Record") "cells" := T.noat 98
theorem n_Row_number (T : Tx w K mg) : NoAttr K (ga K "Row") "number" := T.noat 99
theorem n_Row_kind (T : Tx w K mg) : NoAttr K (ga K "Row") "kind" := T.noat 100
theorem n_Row_got_last (T : Tx w K mg) : NoAttr K (ga K "Row") "got_last" := T.noat 101
theorem n_Row_due (T : Tx w K mg) : NoAttr K (ga K "Row") "due" := T.noat 102
theorem n_Row_goal (T : Tx w K mg) : NoAttr K (ga K "Row") "goal" := T.noat 103
theorem n_Row_cells (T : Tx w K mg) : NoAttr K (ga K "Row") "cells" := T.noat 104
theorem n_Book_number (T : Tx w K mg) : NoAttr K (ga K "Book") "number" := T.noat 105
theorem n_Book_kind (T : Tx w K mg) : NoAttr K (ga K "Book") "kind" := T.noat 106
theorem n_Book_got_last (T : Tx w K mg) : NoAttr K (ga K "Book") "got_last" := T.noat 107
theorem n_Book_due (T : Tx w K mg) : NoAttr K (ga K "Book") "due" := T.noat 108
theorem n_Book_goal (T : Tx w K mg) : NoAttr K (ga K "Book") "goal" := T.noat 109
theorem n_Book_cells (T : Tx w K mg) : NoAttr K (ga K "Book") "cells" := T.noat 110
theorem n_Watch_number (T : Tx w K mg) : NoAttr K (ga K "Watch") "number" := T.noat 111
theorem n_Watch_kind (T : Tx w K mg) : NoAttr K (ga K "Watch") "kind" := T.noat 112
theorem n_Watch_got_last (T : Tx w K mg) : NoAttr K (ga K "Watch") "got_last" := T.noat 113
theorem n_Watch_due (T : Tx w K mg) : NoAttr K (ga K "Watch") "due" := T.noat 114
theorem n_Watch_goal (T : Tx w K mg) : NoAttr K (ga K "Watch") "goal" := T.noat 115
theorem n_Watch_sees (T : Tx w K mg) : NoAttr K (ga K "Watch") "sees" := T.noat 116
theorem n_Picture_entries (T : Tx w K mg) : NoAttr K (ga K "Picture") "entries" := T.noat 117
theorem n_Picture_links (T : Tx w K mg) : NoAttr K (ga K "Picture") "links" := T.noat 118
theorem n_Picture_sizes (T : Tx w K mg) : NoAttr K (ga K "Picture") "sizes" := T.noat 119
theorem n_Heap_names (T : Tx w K mg) : NoAttr K (ga K "Heap") "names" := T.noat 120
theorem n_Heap_things (T : Tx w K mg) : NoAttr K (ga K "Heap") "things" := T.noat 121
theorem n_Heap_made (T : Tx w K mg) : NoAttr K (ga K "Heap") "made" := T.noat 122
theorem n_Heap_change (T : Tx w K mg) : NoAttr K (ga K "Heap") "change" := T.noat 123
theorem n_Plain_heap (T : Tx w K mg) : NoAttr K (ga K "Plain") "heap" := T.noat 124
theorem t_Record_fits (T : Tx w K mg) : Meth K (ga K "Record") "fits" (ma K (ga K "Record") "fits") := T.meth 125
theorem t_Record_cut (T : Tx w K mg) : Meth K (ga K "Record") "cut" (ma K (ga K "Record") "cut") := T.meth 126
theorem t_Record_has (T : Tx w K mg) : Meth K (ga K "Record") "has" (ma K (ga K "Record") "has") := T.meth 127
theorem t_Record_at (T : Tx w K mg) : Meth K (ga K "Record") "at" (ma K (ga K "Record") "at") := T.meth 128
theorem t_Record_put (T : Tx w K mg) : Meth K (ga K "Record") "put" (ma K (ga K "Record") "put") := T.meth 129
theorem t_Record_held (T : Tx w K mg) : Meth K (ga K "Record") "held" (ma K (ga K "Record") "held") := T.meth 130
theorem t_Record_shown (T : Tx w K mg) : Meth K (ga K "Record") "shown" (ma K (ga K "Record") "shown") := T.meth 131
theorem t_Record_size (T : Tx w K mg) : Meth K (ga K "Record") "size" (ma K (ga K "Record") "size") := T.meth 132
theorem t_Row_has (T : Tx w K mg) : Meth K (ga K "Row") "has" (ma K (ga K "Row") "has") := T.meth 133
theorem t_Row_fits (T : Tx w K mg) : Meth K (ga K "Row") "fits" (ma K (ga K "Row") "fits") := T.meth 134
theorem t_Row_put (T : Tx w K mg) : Meth K (ga K "Row") "put" (ma K (ga K "Row") "put") := T.meth 135
theorem t_Row_shown (T : Tx w K mg) : Meth K (ga K "Row") "shown" (ma K (ga K "Row") "shown") := T.meth 136
theorem t_Row_at (T : Tx w K mg) : Meth K (ga K "Row") "at" (ma K (ga K "Row") "at") := T.meth 137
theorem t_Row_cut (T : Tx w K mg) : Meth K (ga K "Row") "cut" (ma K (ga K "Row") "cut") := T.meth 138
theorem t_Row_held (T : Tx w K mg) : Meth K (ga K "Row") "held" (ma K (ga K "Row") "held") := T.meth 139
theorem t_Row_size (T : Tx w K mg) : Meth K (ga K "Row") "size" (ma K (ga K "Row") "size") := T.meth 140
theorem t_Book_fits (T : Tx w K mg) : Meth K (ga K "Book") "fits" (ma K (ga K "Book") "fits") := T.meth 141
theorem t_Book_size (T : Tx w K mg) : Meth K (ga K "Book") "size" (ma K (ga K "Book") "size") := T.meth 142
theorem t_Book_has (T : Tx w K mg) : Meth K (ga K "Book") "has" (ma K (ga K "Book") "has") := T.meth 143
theorem t_Book_at (T : Tx w K mg) : Meth K (ga K "Book") "at" (ma K (ga K "Book") "at") := T.meth 144
theorem t_Book_put (T : Tx w K mg) : Meth K (ga K "Book") "put" (ma K (ga K "Book") "put") := T.meth 145
theorem t_Book_cut (T : Tx w K mg) : Meth K (ga K "Book") "cut" (ma K (ga K "Book") "cut") := T.meth 146
theorem t_Book_held (T : Tx w K mg) : Meth K (ga K "Book") "held" (ma K (ga K "Book") "held") := T.meth 147
theorem t_Book_shown (T : Tx w K mg) : Meth K (ga K "Book") "shown" (ma K (ga K "Book") "shown") := T.meth 148
theorem t_Watch_shown (T : Tx w K mg) : Meth K (ga K "Watch") "shown" (ma K (ga K "Watch") "shown") := T.meth 149
theorem t_Watch_size (T : Tx w K mg) : Meth K (ga K "Watch") "size" (ma K (ga K "Watch") "size") := T.meth 150
theorem t_Watch_has (T : Tx w K mg) : Meth K (ga K "Watch") "has" (ma K (ga K "Watch") "has") := T.meth 151
theorem t_Watch_fits (T : Tx w K mg) : Meth K (ga K "Watch") "fits" (ma K (ga K "Watch") "fits") := T.meth 152
theorem t_Watch_held (T : Tx w K mg) : Meth K (ga K "Watch") "held" (ma K (ga K "Watch") "held") := T.meth 153
theorem t_Picture_check_thing (T : Tx w K mg) : Meth K (ga K "Picture") "check_thing" (ma K (ga K "Picture") "check_thing") := T.meth 154
theorem t_Picture_arrivals (T : Tx w K mg) : Meth K (ga K "Picture") "arrivals" (ma K (ga K "Picture") "arrivals") := T.meth 155
theorem t_Picture_kept_by (T : Tx w K mg) : Meth K (ga K "Picture") "kept_by" (ma K (ga K "Picture") "kept_by") := T.meth 156
theorem t_Picture_total_of (T : Tx w K mg) : Meth K (ga K "Picture") "total_of" (ma K (ga K "Picture") "total_of") := T.meth 157
theorem t_Heap_thing_of (T : Tx w K mg) : Meth K (ga K "Heap") "thing_of" (ma K (ga K "Heap") "thing_of") := T.meth 158
theorem t_Heap_bring (T : Tx w K mg) : Meth K (ga K "Heap") "bring" (ma K (ga K "Heap") "bring") := T.meth 159
theorem t_Heap_forget (T : Tx w K mg) : Meth K (ga K "Heap") "forget" (ma K (ga K "Heap") "forget") := T.meth 160
theorem t_Heap_store (T : Tx w K mg) : Meth K (ga K "Heap") "store" (ma K (ga K "Heap") "store") := T.meth 161
theorem t_Heap_strike (T : Tx w K mg) : Meth K (ga K "Heap") "strike" (ma K (ga K "Heap") "strike") := T.meth 162
theorem t_Heap_named (T : Tx w K mg) : Meth K (ga K "Heap") "named" (ma K (ga K "Heap") "named") := T.meth 163
theorem t_Heap_due_ones (T : Tx w K mg) : Meth K (ga K "Heap") "due_ones" (ma K (ga K "Heap") "due_ones") := T.meth 164
theorem t_Heap_spread (T : Tx w K mg) : Meth K (ga K "Heap") "spread" (ma K (ga K "Heap") "spread") := T.meth 165
theorem t_Heap_reach (T : Tx w K mg) : Meth K (ga K "Heap") "reach" (ma K (ga K "Heap") "reach") := T.meth 166
theorem t_Heap_kept (T : Tx w K mg) : Meth K (ga K "Heap") "kept" (ma K (ga K "Heap") "kept") := T.meth 167
theorem t_Heap_tell_watches (T : Tx w K mg) : Meth K (ga K "Heap") "tell_watches" (ma K (ga K "Heap") "tell_watches") := T.meth 168
theorem t_Heap_perform_last (T : Tx w K mg) : Meth K (ga K "Heap") "perform_last" (ma K (ga K "Heap") "perform_last") := T.meth 169
theorem t_Heap_photo (T : Tx w K mg) : Meth K (ga K "Heap") "photo" (ma K (ga K "Heap") "photo") := T.meth 170
theorem t_Plain_do (T : Tx w K mg) : Meth K (ga K "Plain") "do" (ma K (ga K "Plain") "do") := T.meth 171
theorem t_Plain_reach (T : Tx w K mg) : Meth K (ga K "Plain") "reach" (ma K (ga K "Plain") "reach") := T.meth 172
theorem t_Plain_kept (T : Tx w K mg) : Meth K (ga K "Plain") "kept" (ma K (ga K "Plain") "kept") := T.meth 173
theorem t_Plain_photo (T : Tx w K mg) : Meth K (ga K "Plain") "photo" (ma K (ga K "Plain") "photo") := T.meth 174
theorem x_cfun_Thing (T : Tx w K mg) : (Fx.cfun "Thing" "__init__").ok K = true := T.fxs 0
theorem x_cfun_Holder (T : Tx w K mg) : (Fx.cfun "Holder" "__init__").ok K = true := T.fxs 1
theorem x_kitW_Record (T : Tx w K mg) : (Fx.kit "Record" "Watch" false).ok K = true := T.fxs 2
theorem x_isi_Record (T : Tx w K mg) : (Fx.isi "Record").ok K = true := T.fxs 3
theorem x_kitW_Row (T : Tx w K mg) : (Fx.kit "Row" "Watch" false).ok K = true := T.fxs 4
theorem x_isi_Row (T : Tx w K mg) : (Fx.isi "Row").ok K = true := T.fxs 5
theorem x_kitW_Book (T : Tx w K mg) : (Fx.kit "Book" "Watch" false).ok K = true := T.fxs 6
theorem x_isi_Book (T : Tx w K mg) : (Fx.isi "Book").ok K = true := T.fxs 7
theorem x_kitW_Watch (T : Tx w K mg) : (Fx.kit "Watch" "Watch" true).ok K = true := T.fxs 8
theorem x_isi_Watch (T : Tx w K mg) : (Fx.isi "Watch").ok K = true := T.fxs 9
theorem x_kitW_None (T : Tx w K mg) : (Fx.kitN "NoneType" "Watch" false).ok K = true := T.fxs 10
theorem x_tup_LETTERS (T : Tx w K mg) : (Fx.tup "LETTERS" ["a", "b", "c", "d"]).ok K = true := T.fxs 11
theorem x_tup_KINDS (T : Tx w K mg) : (Fx.tup "KINDS" ["record", "row", "book"]).ok K = true := T.fxs 12
theorem x_tup_NAMES (T : Tx w K mg) : (Fx.tup "NAMES" ["p", "q", "r", "s", "t", "u", "v", "w"]).ok K = true := T.fxs 13
theorem x_SHAPES_make (T : Tx w K mg) : (Fx.ttup "SHAPES" "make" ["name", "kind"]).ok K = true := T.fxs 14
theorem x_SHAPES_num (T : Tx w K mg) : (Fx.ttup "SHAPES" "num" ["name", "number"]).ok K = true := T.fxs 15
theorem x_SHAPES_copy (T : Tx w K mg) : (Fx.ttup "SHAPES" "copy" ["name", "name"]).ok K = true := T.fxs 16
theorem x_SHAPES_drop (T : Tx w K mg) : (Fx.ttup "SHAPES" "drop" ["name"]).ok K = true := T.fxs 17
theorem x_SHAPES_put (T : Tx w K mg) : (Fx.ttup "SHAPES" "put" ["name", "part", "name"]).ok K = true := T.fxs 18
theorem x_SHAPES_take (T : Tx w K mg) : (Fx.ttup "SHAPES" "take" ["name", "name", "part"]).ok K = true := T.fxs 19
theorem x_SHAPES_cut (T : Tx w K mg) : (Fx.ttup "SHAPES" "cut" ["name", "part"]).ok K = true := T.fxs 20
theorem x_SHAPES_watch (T : Tx w K mg) : (Fx.ttup "SHAPES" "watch" ["name", "name"]).ok K = true := T.fxs 21
theorem x_SHAPES_last (T : Tx w K mg) : (Fx.ttup "SHAPES" "last" ["name", "goal"]).ok K = true := T.fxs 22
theorem x_SHAPES_ask (T : Tx w K mg) : (Fx.ttup "SHAPES" "ask" ["name", "name"]).ok K = true := T.fxs 23
theorem x_SHAPES_settle (T : Tx w K mg) : (Fx.ttup "SHAPES" "settle" []).ok K = true := T.fxs 24
theorem x_SHAPES_say (T : Tx w K mg) : (Fx.ttup "SHAPES" "say" ["name"]).ok K = true := T.fxs 25
theorem x_ACTS_make (T : Tx w K mg) : (Fx.tdef "ACTS" "make" "do_make").ok K = true := T.fxs 26
theorem x_ACTS_num (T : Tx w K mg) : (Fx.tdef "ACTS" "num" "do_num").ok K = true := T.fxs 27
theorem x_ACTS_copy (T : Tx w K mg) : (Fx.tdef "ACTS" "copy" "do_copy").ok K = true := T.fxs 28
theorem x_ACTS_drop (T : Tx w K mg) : (Fx.tdef "ACTS" "drop" "do_drop").ok K = true := T.fxs 29
theorem x_ACTS_put (T : Tx w K mg) : (Fx.tdef "ACTS" "put" "do_put").ok K = true := T.fxs 30
theorem x_ACTS_take (T : Tx w K mg) : (Fx.tdef "ACTS" "take" "do_take").ok K = true := T.fxs 31
theorem x_ACTS_cut (T : Tx w K mg) : (Fx.tdef "ACTS" "cut" "do_cut").ok K = true := T.fxs 32
theorem x_ACTS_watch (T : Tx w K mg) : (Fx.tdef "ACTS" "watch" "do_watch").ok K = true := T.fxs 33
theorem x_ACTS_last (T : Tx w K mg) : (Fx.tdef "ACTS" "last" "do_last").ok K = true := T.fxs 34
theorem x_ACTS_ask (T : Tx w K mg) : (Fx.tdef "ACTS" "ask" "do_ask").ok K = true := T.fxs 35
theorem x_ACTS_settle (T : Tx w K mg) : (Fx.tdef "ACTS" "settle" "do_settle").ok K = true := T.fxs 36
theorem x_ACTS_say (T : Tx w K mg) : (Fx.tdef "ACTS" "say" "do_say").ok K = true := T.fxs 37
theorem f_as_value (T : Tx w K mg) : ∃ fd, FunD K "as_value" "as_value" (defArgs s_as_value) (defBody s_as_value) (defScope s_as_value) [] [] (ga K "as_value") fd := T.def_ 0 (d := d_as_value) rfl
theorem f_is_thing (T : Tx w K mg) : ∃ fd, FunD K "is_thing" "is_thing" (defArgs s_is_thing) (defBody s_is_thing) (defScope s_is_thing) [] [] (ga K "is_thing") fd := T.def_ 1 (d := d_is_thing) rfl
theorem f_new_thing (T : Tx w K mg) : ∃ fd, FunD K "new_thing" "new_thing" (defArgs s_new_thing) (defBody s_new_thing) (defScope s_new_thing) [] [] (ga K "new_thing") fd := T.def_ 2 (d := d_new_thing) rfl
theorem f_is_within (T : Tx w K mg) : ∃ fd, FunD K "is_within" "is_within" (defArgs s_is_within) (defBody s_is_within) (defScope s_is_within) [] [] (ga K "is_within") fd := T.def_ 3 (d := d_is_within) rfl
theorem f_is_word_of (T : Tx w K mg) : ∃ fd, FunD K "is_word_of" "is_word_of" (defArgs s_is_word_of) (defBody s_is_word_of) (defScope s_is_word_of) [] [] (ga K "is_word_of") fd := T.def_ 4 (d := d_is_word_of) rfl
theorem f_is_deed (T : Tx w K mg) : ∃ fd, FunD K "is_deed" "is_deed" (defArgs s_is_deed) (defBody s_is_deed) (defScope s_is_deed) [] [] (ga K "is_deed") fd := T.def_ 5 (d := d_is_deed) rfl
theorem f_check_program (T : Tx w K mg) : ∃ fd, FunD K "check_program" "check_program" (defArgs s_check_program) (defBody s_check_program) (defScope s_check_program) [] [] (ga K "check_program") fd := T.def_ 6 (d := d_check_program) rfl
theorem f_holdings (T : Tx w K mg) : ∃ fd, FunD K "holdings" "holdings" (defArgs s_holdings) (defBody s_holdings) (defScope s_holdings) [] [] (ga K "holdings") fd := T.def_ 7 (d := d_holdings) rfl
theorem f_keeps (T : Tx w K mg) : ∃ fd, FunD K "keeps" "keeps" (defArgs s_keeps) (defBody s_keeps) (defScope s_keeps) [] [] (ga K "keeps") fd := T.def_ 8 (d := d_keeps) rfl
theorem f_totals (T : Tx w K mg) : ∃ fd, FunD K "totals" "totals" (defArgs s_totals) (defBody s_totals) (defScope s_totals) [] [] (ga K "totals") fd := T.def_ 9 (d := d_totals) rfl
theorem f_do_make (T : Tx w K mg) : ∃ fd, FunD K "do_make" "do_make" (defArgs s_do_make) (defBody s_do_make) (defScope s_do_make) [] [] (ga K "do_make") fd := T.def_ 10 (d := d_do_make) rfl
theorem f_do_num (T : Tx w K mg) : ∃ fd, FunD K "do_num" "do_num" (defArgs s_do_num) (defBody s_do_num) (defScope s_do_num) [] [] (ga K "do_num") fd := T.def_ 11 (d := d_do_num) rfl
theorem f_do_copy (T : Tx w K mg) : ∃ fd, FunD K "do_copy" "do_copy" (defArgs s_do_copy) (defBody s_do_copy) (defScope s_do_copy) [] [] (ga K "do_copy") fd := T.def_ 12 (d := d_do_copy) rfl
theorem f_do_drop (T : Tx w K mg) : ∃ fd, FunD K "do_drop" "do_drop" (defArgs s_do_drop) (defBody s_do_drop) (defScope s_do_drop) [] [] (ga K "do_drop") fd := T.def_ 13 (d := d_do_drop) rfl
theorem f_do_put (T : Tx w K mg) : ∃ fd, FunD K "do_put" "do_put" (defArgs s_do_put) (defBody s_do_put) (defScope s_do_put) [] [] (ga K "do_put") fd := T.def_ 14 (d := d_do_put) rfl
theorem f_do_take (T : Tx w K mg) : ∃ fd, FunD K "do_take" "do_take" (defArgs s_do_take) (defBody s_do_take) (defScope s_do_take) [] [] (ga K "do_take") fd := T.def_ 15 (d := d_do_take) rfl
theorem f_do_cut (T : Tx w K mg) : ∃ fd, FunD K "do_cut" "do_cut" (defArgs s_do_cut) (defBody s_do_cut) (defScope s_do_cut) [] [] (ga K "do_cut") fd := T.def_ 16 (d := d_do_cut) rfl
theorem f_do_watch (T : Tx w K mg) : ∃ fd, FunD K "do_watch" "do_watch" (defArgs s_do_watch) (defBody s_do_watch) (defScope s_do_watch) [] [] (ga K "do_watch") fd := T.def_ 17 (d := d_do_watch) rfl
theorem f_do_last (T : Tx w K mg) : ∃ fd, FunD K "do_last" "do_last" (defArgs s_do_last) (defBody s_do_last) (defScope s_do_last) [] [] (ga K "do_last") fd := T.def_ 18 (d := d_do_last) rfl
theorem f_do_ask (T : Tx w K mg) : ∃ fd, FunD K "do_ask" "do_ask" (defArgs s_do_ask) (defBody s_do_ask) (defScope s_do_ask) [] [] (ga K "do_ask") fd := T.def_ 19 (d := d_do_ask) rfl
theorem f_do_settle (T : Tx w K mg) : ∃ fd, FunD K "do_settle" "do_settle" (defArgs s_do_settle) (defBody s_do_settle) (defScope s_do_settle) [] [] (ga K "do_settle") fd := T.def_ 20 (d := d_do_settle) rfl
theorem f_do_say (T : Tx w K mg) : ∃ fd, FunD K "do_say" "do_say" (defArgs s_do_say) (defBody s_do_say) (defScope s_do_say) [] [] (ga K "do_say") fd := T.def_ 21 (d := d_do_say) rfl
theorem f_act (T : Tx w K mg) : ∃ fd, FunD K "act" "act" (defArgs s_act) (defBody s_act) (defScope s_act) [] [] (ga K "act") fd := T.def_ 22 (d := d_act) rfl
theorem f_snapshot (T : Tx w K mg) : ∃ fd, FunD K "snapshot" "snapshot" (defArgs s_snapshot) (defBody s_snapshot) (defScope s_snapshot) [] [] (ga K "snapshot") fd := T.def_ 23 (d := d_snapshot) rfl
theorem f_compared (T : Tx w K mg) : ∃ fd, FunD K "compared" "compared" (defArgs s_compared) (defBody s_compared) (defScope s_compared) [] [] (ga K "compared") fd := T.def_ 24 (d := d_compared) rfl
theorem f_do_all (T : Tx w K mg) : ∃ fd, FunD K "do_all" "do_all" (defArgs s_do_all) (defBody s_do_all) (defScope s_do_all) [] [] (ga K "do_all") fd := T.def_ 25 (d := d_do_all) rfl
theorem f_growing (T : Tx w K mg) : ∃ fd, FunD K "growing" "growing" (defArgs s_growing) (defBody s_growing) (defScope s_growing) [] [] (ga K "growing") fd := T.def_ 26 (d := d_growing) rfl
theorem f_grows (T : Tx w K mg) : ∃ fd, FunD K "grows" "grows" (defArgs s_grows) (defBody s_grows) (defScope s_grows) [] [] (ga K "grows") fd := T.def_ 27 (d := d_grows) rfl
theorem f_keeps_another (T : Tx w K mg) : ∃ fd, FunD K "keeps_another" "keeps_another" (defArgs s_keeps_another) (defBody s_keeps_another) (defScope s_keeps_another) [] [] (ga K "keeps_another") fd := T.def_ 28 (d := d_keeps_another) rfl
theorem f_leak (T : Tx w K mg) : ∃ fd, FunD K "leak" "leak" (defArgs s_leak) (defBody s_leak) (defScope s_leak) [] [] (ga K "leak") fd := T.def_ 29 (d := d_leak) rfl
theorem f__law_mix (T : Tx w K mg) : ∃ fd, FunD K "_law_mix" "_law_mix" (defArgs s__law_mix) (defBody s__law_mix) (defScope s__law_mix) [] [] (ga K "_law_mix") fd := T.def_ 30 (d := d__law_mix) rfl
theorem f__law_next (T : Tx w K mg) : ∃ fd, FunD K "_law_next" "_law_next" (defArgs s__law_next) (defBody s__law_next) (defScope s__law_next) [] [] (ga K "_law_next") fd := T.def_ 31 (d := d__law_next) rfl
theorem f__law_first (T : Tx w K mg) : ∃ fd, FunD K "_law_first" "_law_first" (defArgs s__law_first) (defBody s__law_first) (defScope s__law_first) [] [] (ga K "_law_first") fd := T.def_ 32 (d := d__law_first) rfl
theorem f__law_down (T : Tx w K mg) : ∃ fd, FunD K "_law_down" "_law_down" (defArgs s__law_down) (defBody s__law_down) (defScope s__law_down) [] [] (ga K "_law_down") fd := T.def_ 33 (d := d__law_down) rfl
theorem f_law (T : Tx w K mg) : ∃ fd, FunD K "law" "law" (defArgs s_law) (defBody s_law) (defScope s_law) [] [] (ga K "law") fd := T.def_ 34 (d := d_law) rfl
theorem f_Thing_init (T : Tx w K mg) : ∃ fd, FunD K "__init__" "Thing.__init__" (defArgs s_Thing_init) (defBody s_Thing_init) (defScope s_Thing_init) [] [] (ma K (ga K "Thing") "__init__") fd := T.def_ 35 (d := d_Thing_init) rfl
theorem f_Thing_has (T : Tx w K mg) : ∃ fd, FunD K "has" "Thing.has" (defArgs s_Thing_has) (defBody s_Thing_has) (defScope s_Thing_has) [] [] (ma K (ga K "Thing") "has") fd := T.def_ 36 (d := d_Thing_has) rfl
theorem f_Thing_fits (T : Tx w K mg) : ∃ fd, FunD K "fits" "Thing.fits" (defArgs s_Thing_fits) (defBody s_Thing_fits) (defScope s_Thing_fits) [] [] (ma K (ga K "Thing") "fits") fd := T.def_ 37 (d := d_Thing_fits) rfl
theorem f_Thing_held (T : Tx w K mg) : ∃ fd, FunD K "held" "Thing.held" (defArgs s_Thing_held) (defBody s_Thing_held) (defScope s_Thing_held) [] [] (ma K (ga K "Thing") "held") fd := T.def_ 38 (d := d_Thing_held) rfl
theorem f_Holder_init (T : Tx w K mg) : ∃ fd, FunD K "__init__" "Holder.__init__" (defArgs s_Holder_init) (defBody s_Holder_init) (defScope s_Holder_init) [] [] (ma K (ga K "Holder") "__init__") fd := T.def_ 39 (d := d_Holder_init) rfl
theorem f_Holder_has (T : Tx w K mg) : ∃ fd, FunD K "has" "Holder.has" (defArgs s_Holder_has) (defBody s_Holder_has) (defScope s_Holder_has) [] [] (ma K (ga K "Holder") "has") fd := T.def_ 40 (d := d_Holder_has) rfl
theorem f_Holder_at (T : Tx w K mg) : ∃ fd, FunD K "at" "Holder.at" (defArgs s_Holder_at) (defBody s_Holder_at) (defScope s_Holder_at) [] [] (ma K (ga K "Holder") "at") fd := T.def_ 41 (d := d_Holder_at) rfl
theorem f_Holder_put (T : Tx w K mg) : ∃ fd, FunD K "put" "Holder.put" (defArgs s_Holder_put) (defBody s_Holder_put) (defScope s_Holder_put) [] [] (ma K (ga K "Holder") "put") fd := T.def_ 42 (d := d_Holder_put) rfl
theorem f_Holder_cut (T : Tx w K mg) : ∃ fd, FunD K "cut" "Holder.cut" (defArgs s_Holder_cut) (defBody s_Holder_cut) (defScope s_Holder_cut) [] [] (ma K (ga K "Holder") "cut") fd := T.def_ 43 (d := d_Holder_cut) rfl
theorem f_Holder_held (T : Tx w K mg) : ∃ fd, FunD K "held" "Holder.held" (defArgs s_Holder_held) (defBody s_Holder_held) (defScope s_Holder_held) [] [] (ma K (ga K "Holder") "held") fd := T.def_ 44 (d := d_Holder_held) rfl
theorem f_Holder_shown (T : Tx w K mg) : ∃ fd, FunD K "shown" "Holder.shown" (defArgs s_Holder_shown) (defBody s_Holder_shown) (defScope s_Holder_shown) [] [] (ma K (ga K "Holder") "shown") fd := T.def_ 45 (d := d_Holder_shown) rfl
theorem f_Holder_size (T : Tx w K mg) : ∃ fd, FunD K "size" "Holder.size" (defArgs s_Holder_size) (defBody s_Holder_size) (defScope s_Holder_size) [] [] (ma K (ga K "Holder") "size") fd := T.def_ 46 (d := d_Holder_size) rfl
theorem f_Holder_fits (T : Tx w K mg) : ∃ fd, FunD K "fits" "Thing.fits" (defArgs s_Thing_fits) (defBody s_Thing_fits) (defScope s_Thing_fits) [] [] (ma K (ga K "Holder") "fits") fd := T.def_ 47 (d := d_Holder_fits) rfl
theorem f_Record_init (T : Tx w K mg) : ∃ fd, FunD K "__init__" "Record.__init__" (defArgs s_Record_init) (defBody s_Record_init) (defScope s_Record_init) [] [] (ma K (ga K "Record") "__init__") fd := T.def_ 48 (d := d_Record_init) rfl
theorem f_Record_fits (T : Tx w K mg) : ∃ fd, FunD K "fits" "Record.fits" (defArgs s_Record_fits) (defBody s_Record_fits) (defScope s_Record_fits) [] [] (ma K (ga K "Record") "fits") fd := T.def_ 49 (d := d_Record_fits) rfl
theorem f_Record_cut (T : Tx w K mg) : ∃ fd, FunD K "cut" "Record.cut" (defArgs s_Record_cut) (defBody s_Record_cut) (defScope s_Record_cut) [] [] (ma K (ga K "Record") "cut") fd := T.def_ 50 (d := d_Record_cut) rfl
theorem f_Record_has (T : Tx w K mg) : ∃ fd, FunD K "has" "Holder.has" (defArgs s_Holder_has) (defBody s_Holder_has) (defScope s_Holder_has) [] [] (ma K (ga K "Record") "has") fd := T.def_ 51 (d := d_Record_has) rfl
theorem f_Record_at (T : Tx w K mg) : ∃ fd, FunD K "at" "Holder.at" (defArgs s_Holder_at) (defBody s_Holder_at) (defScope s_Holder_at) [] [] (ma K (ga K "Record") "at") fd := T.def_ 52 (d := d_Record_at) rfl
theorem f_Record_put (T : Tx w K mg) : ∃ fd, FunD K "put" "Holder.put" (defArgs s_Holder_put) (defBody s_Holder_put) (defScope s_Holder_put) [] [] (ma K (ga K "Record") "put") fd := T.def_ 53 (d := d_Record_put) rfl
theorem f_Record_held (T : Tx w K mg) : ∃ fd, FunD K "held" "Holder.held" (defArgs s_Holder_held) (defBody s_Holder_held) (defScope s_Holder_held) [] [] (ma K (ga K "Record") "held") fd := T.def_ 54 (d := d_Record_held) rfl
theorem f_Record_shown (T : Tx w K mg) : ∃ fd, FunD K "shown" "Holder.shown" (defArgs s_Holder_shown) (defBody s_Holder_shown) (defScope s_Holder_shown) [] [] (ma K (ga K "Record") "shown") fd := T.def_ 55 (d := d_Record_shown) rfl
theorem f_Record_size (T : Tx w K mg) : ∃ fd, FunD K "size" "Holder.size" (defArgs s_Holder_size) (defBody s_Holder_size) (defScope s_Holder_size) [] [] (ma K (ga K "Record") "size") fd := T.def_ 56 (d := d_Record_size) rfl
theorem f_Row_init (T : Tx w K mg) : ∃ fd, FunD K "__init__" "Row.__init__" (defArgs s_Row_init) (defBody s_Row_init) (defScope s_Row_init) [] [] (ma K (ga K "Row") "__init__") fd := T.def_ 57 (d := d_Row_init) rfl
theorem f_Row_has (T : Tx w K mg) : ∃ fd, FunD K "has" "Row.has" (defArgs s_Row_has) (defBody s_Row_has) (defScope s_Row_has) [] [] (ma K (ga K "Row") "has") fd := T.def_ 58 (d := d_Row_has) rfl
theorem f_Row_fits (T : Tx w K mg) : ∃ fd, FunD K "fits" "Row.fits" (defArgs s_Row_fits) (defBody s_Row_fits) (defScope s_Row_fits) [] [] (ma K (ga K "Row") "fits") fd := T.def_ 59 (d := d_Row_fits) rfl
theorem f_Row_put (T : Tx w K mg) : ∃ fd, FunD K "put" "Row.put" (defArgs s_Row_put) (defBody s_Row_put) (defScope s_Row_put) [] [] (ma K (ga K "Row") "put") fd := T.def_ 60 (d := d_Row_put) rfl
theorem f_Row_shown (T : Tx w K mg) : ∃ fd, FunD K "shown" "Row.shown" (defArgs s_Row_shown) (defBody s_Row_shown) (defScope s_Row_shown) [] [] (ma K (ga K "Row") "shown") fd := T.def_ 61 (d := d_Row_shown) rfl
theorem f_Row_at (T : Tx w K mg) : ∃ fd, FunD K "at" "Holder.at" (defArgs s_Holder_at) (defBody s_Holder_at) (defScope s_Holder_at) [] [] (ma K (ga K "Row") "at") fd := T.def_ 62 (d := d_Row_at) rfl
theorem f_Row_cut (T : Tx w K mg) : ∃ fd, FunD K "cut" "Holder.cut" (defArgs s_Holder_cut) (defBody s_Holder_cut) (defScope s_Holder_cut) [] [] (ma K (ga K "Row") "cut") fd := T.def_ 63 (d := d_Row_cut) rfl
theorem f_Row_held (T : Tx w K mg) : ∃ fd, FunD K "held" "Holder.held" (defArgs s_Holder_held) (defBody s_Holder_held) (defScope s_Holder_held) [] [] (ma K (ga K "Row") "held") fd := T.def_ 64 (d := d_Row_held) rfl
theorem f_Row_size (T : Tx w K mg) : ∃ fd, FunD K "size" "Holder.size" (defArgs s_Holder_size) (defBody s_Holder_size) (defScope s_Holder_size) [] [] (ma K (ga K "Row") "size") fd := T.def_ 65 (d := d_Row_size) rfl
theorem f_Book_init (T : Tx w K mg) : ∃ fd, FunD K "__init__" "Book.__init__" (defArgs s_Book_init) (defBody s_Book_init) (defScope s_Book_init) [] [] (ma K (ga K "Book") "__init__") fd := T.def_ 66 (d := d_Book_init) rfl
theorem f_Book_fits (T : Tx w K mg) : ∃ fd, FunD K "fits" "Book.fits" (defArgs s_Book_fits) (defBody s_Book_fits) (defScope s_Book_fits) [] [] (ma K (ga K "Book") "fits") fd := T.def_ 67 (d := d_Book_fits) rfl
theorem f_Book_size (T : Tx w K mg) : ∃ fd, FunD K "size" "Book.size" (defArgs s_Book_size) (defBody s_Book_size) (defScope s_Book_size) [] [] (ma K (ga K "Book") "size") fd := T.def_ 68 (d := d_Book_size) rfl
theorem f_Book_has (T : Tx w K mg) : ∃ fd, FunD K "has" "Holder.has" (defArgs s_Holder_has) (defBody s_Holder_has) (defScope s_Holder_has) [] [] (ma K (ga K "Book") "has") fd := T.def_ 69 (d := d_Book_has) rfl
theorem f_Book_at (T : Tx w K mg) : ∃ fd, FunD K "at" "Holder.at" (defArgs s_Holder_at) (defBody s_Holder_at) (defScope s_Holder_at) [] [] (ma K (ga K "Book") "at") fd := T.def_ 70 (d := d_Book_at) rfl
theorem f_Book_put (T : Tx w K mg) : ∃ fd, FunD K "put" "Holder.put" (defArgs s_Holder_put) (defBody s_Holder_put) (defScope s_Holder_put) [] [] (ma K (ga K "Book") "put") fd := T.def_ 71 (d := d_Book_put) rfl
theorem f_Book_cut (T : Tx w K mg) : ∃ fd, FunD K "cut" "Holder.cut" (defArgs s_Holder_cut) (defBody s_Holder_cut) (defScope s_Holder_cut) [] [] (ma K (ga K "Book") "cut") fd := T.def_ 72 (d := d_Book_cut) rfl
theorem f_Book_held (T : Tx w K mg) : ∃ fd, FunD K "held" "Holder.held" (defArgs s_Holder_held) (defBody s_Holder_held) (defScope s_Holder_held) [] [] (ma K (ga K "Book") "held") fd := T.def_ 73 (d := d_Book_held) rfl
theorem f_Book_shown (T : Tx w K mg) : ∃ fd, FunD K "shown" "Holder.shown" (defArgs s_Holder_shown) (defBody s_Holder_shown) (defScope s_Holder_shown) [] [] (ma K (ga K "Book") "shown") fd := T.def_ 74 (d := d_Book_shown) rfl
theorem f_Watch_init (T : Tx w K mg) : ∃ fd, FunD K "__init__" "Watch.__init__" (defArgs s_Watch_init) (defBody s_Watch_init) (defScope s_Watch_init) [] [] (ma K (ga K "Watch") "__init__") fd := T.def_ 75 (d := d_Watch_init) rfl
theorem f_Watch_shown (T : Tx w K mg) : ∃ fd, FunD K "shown" "Watch.shown" (defArgs s_Watch_shown) (defBody s_Watch_shown) (defScope s_Watch_shown) [] [] (ma K (ga K "Watch") "shown") fd := T.def_ 76 (d := d_Watch_shown) rfl
theorem f_Watch_size (T : Tx w K mg) : ∃ fd, FunD K "size" "Watch.size" (defArgs s_Watch_size) (defBody s_Watch_size) (defScope s_Watch_size) [] [] (ma K (ga K "Watch") "size") fd := T.def_ 77 (d := d_Watch_size) rfl
theorem f_Watch_has (T : Tx w K mg) : ∃ fd, FunD K "has" "Thing.has" (defArgs s_Thing_has) (defBody s_Thing_has) (defScope s_Thing_has) [] [] (ma K (ga K "Watch") "has") fd := T.def_ 78 (d := d_Watch_has) rfl
theorem f_Watch_fits (T : Tx w K mg) : ∃ fd, FunD K "fits" "Thing.fits" (defArgs s_Thing_fits) (defBody s_Thing_fits) (defScope s_Thing_fits) [] [] (ma K (ga K "Watch") "fits") fd := T.def_ 79 (d := d_Watch_fits) rfl
theorem f_Watch_held (T : Tx w K mg) : ∃ fd, FunD K "held" "Thing.held" (defArgs s_Thing_held) (defBody s_Thing_held) (defScope s_Thing_held) [] [] (ma K (ga K "Watch") "held") fd := T.def_ 80 (d := d_Watch_held) rfl
theorem f_Picture_init (T : Tx w K mg) : ∃ fd, FunD K "__init__" "Picture.__init__" (defArgs s_Picture_init) (defBody s_Picture_init) (defScope s_Picture_init) [] [] (ma K (ga K "Picture") "__init__") fd := T.def_ 81 (d := d_Picture_init) rfl
theorem f_Picture_check_thing (T : Tx w K mg) : ∃ fd, FunD K "check_thing" "Picture.check_thing" (defArgs s_Picture_check_thing) (defBody s_Picture_check_thing) (defScope s_Picture_check_thing) [] [] (ma K (ga K "Picture") "check_thing") fd := T.def_ 82 (d := d_Picture_check_thing) rfl
theorem f_Picture_arrivals (T : Tx w K mg) : ∃ fd, FunD K "arrivals" "Picture.arrivals" (defArgs s_Picture_arrivals) (defBody s_Picture_arrivals) (defScope s_Picture_arrivals) [] [] (ma K (ga K "Picture") "arrivals") fd := T.def_ 83 (d := d_Picture_arrivals) rfl
theorem f_Picture_kept_by (T : Tx w K mg) : ∃ fd, FunD K "kept_by" "Picture.kept_by" (defArgs s_Picture_kept_by) (defBody s_Picture_kept_by) (defScope s_Picture_kept_by) [] [] (ma K (ga K "Picture") "kept_by") fd := T.def_ 84 (d := d_Picture_kept_by) rfl
theorem f_Picture_total_of (T : Tx w K mg) : ∃ fd, FunD K "total_of" "Picture.total_of" (defArgs s_Picture_total_of) (defBody s_Picture_total_of) (defScope s_Picture_total_of) [] [] (ma K (ga K "Picture") "total_of") fd := T.def_ 85 (d := d_Picture_total_of) rfl
theorem f_Heap_init (T : Tx w K mg) : ∃ fd, FunD K "__init__" "Heap.__init__" (defArgs s_Heap_init) (defBody s_Heap_init) (defScope s_Heap_init) [] [] (ma K (ga K "Heap") "__init__") fd := T.def_ 86 (d := d_Heap_init) rfl
theorem f_Heap_thing_of (T : Tx w K mg) : ∃ fd, FunD K "thing_of" "Heap.thing_of" (defArgs s_Heap_thing_of) (defBody s_Heap_thing_of) (defScope s_Heap_thing_of) [] [] (ma K (ga K "Heap") "thing_of") fd := T.def_ 87 (d := d_Heap_thing_of) rfl
theorem f_Heap_bring (T : Tx w K mg) : ∃ fd, FunD K "bring" "Heap.bring" (defArgs s_Heap_bring) (defBody s_Heap_bring) (defScope s_Heap_bring) [] [] (ma K (ga K "Heap") "bring") fd := T.def_ 88 (d := d_Heap_bring) rfl
theorem f_Heap_forget (T : Tx w K mg) : ∃ fd, FunD K "forget" "Heap.forget" (defArgs s_Heap_forget) (defBody s_Heap_forget) (defScope s_Heap_forget) [] [] (ma K (ga K "Heap") "forget") fd := T.def_ 89 (d := d_Heap_forget) rfl
theorem f_Heap_store (T : Tx w K mg) : ∃ fd, FunD K "store" "Heap.store" (defArgs s_Heap_store) (defBody s_Heap_store) (defScope s_Heap_store) [] [] (ma K (ga K "Heap") "store") fd := T.def_ 90 (d := d_Heap_store) rfl
theorem f_Heap_strike (T : Tx w K mg) : ∃ fd, FunD K "strike" "Heap.strike" (defArgs s_Heap_strike) (defBody s_Heap_strike) (defScope s_Heap_strike) [] [] (ma K (ga K "Heap") "strike") fd := T.def_ 91 (d := d_Heap_strike) rfl
theorem f_Heap_named (T : Tx w K mg) : ∃ fd, FunD K "named" "Heap.named" (defArgs s_Heap_named) (defBody s_Heap_named) (defScope s_Heap_named) [] [] (ma K (ga K "Heap") "named") fd := T.def_ 92 (d := d_Heap_named) rfl
theorem f_Heap_due_ones (T : Tx w K mg) : ∃ fd, FunD K "due_ones" "Heap.due_ones" (defArgs s_Heap_due_ones) (defBody s_Heap_due_ones) (defScope s_Heap_due_ones) [] [] (ma K (ga K "Heap") "due_ones") fd := T.def_ 93 (d := d_Heap_due_ones) rfl
theorem f_Heap_spread (T : Tx w K mg) : ∃ fd, FunD K "spread" "Heap.spread" (defArgs s_Heap_spread) (defBody s_Heap_spread) (defScope s_Heap_spread) [] [] (ma K (ga K "Heap") "spread") fd := T.def_ 94 (d := d_Heap_spread) rfl
theorem f_Heap_reach (T : Tx w K mg) : ∃ fd, FunD K "reach" "Heap.reach" (defArgs s_Heap_reach) (defBody s_Heap_reach) (defScope s_Heap_reach) [] [] (ma K (ga K "Heap") "reach") fd := T.def_ 95 (d := d_Heap_reach) rfl
theorem f_Heap_kept (T : Tx w K mg) : ∃ fd, FunD K "kept" "Heap.kept" (defArgs s_Heap_kept) (defBody s_Heap_kept) (defScope s_Heap_kept) [] [] (ma K (ga K "Heap") "kept") fd := T.def_ 96 (d := d_Heap_kept) rfl
theorem f_Heap_tell_watches (T : Tx w K mg) : ∃ fd, FunD K "tell_watches" "Heap.tell_watches" (defArgs s_Heap_tell_watches) (defBody s_Heap_tell_watches) (defScope s_Heap_tell_watches) [] [] (ma K (ga K "Heap") "tell_watches") fd := T.def_ 97 (d := d_Heap_tell_watches) rfl
theorem f_Heap_perform_last (T : Tx w K mg) : ∃ fd, FunD K "perform_last" "Heap.perform_last" (defArgs s_Heap_perform_last) (defBody s_Heap_perform_last) (defScope s_Heap_perform_last) [] [] (ma K (ga K "Heap") "perform_last") fd := T.def_ 98 (d := d_Heap_perform_last) rfl
theorem f_Heap_photo (T : Tx w K mg) : ∃ fd, FunD K "photo" "Heap.photo" (defArgs s_Heap_photo) (defBody s_Heap_photo) (defScope s_Heap_photo) [] [] (ma K (ga K "Heap") "photo") fd := T.def_ 99 (d := d_Heap_photo) rfl
theorem f_Plain_init (T : Tx w K mg) : ∃ fd, FunD K "__init__" "Plain.__init__" (defArgs s_Plain_init) (defBody s_Plain_init) (defScope s_Plain_init) [] [] (ma K (ga K "Plain") "__init__") fd := T.def_ 100 (d := d_Plain_init) rfl
theorem f_Plain_do (T : Tx w K mg) : ∃ fd, FunD K "do" "Plain.do" (defArgs s_Plain_do) (defBody s_Plain_do) (defScope s_Plain_do) [] [] (ma K (ga K "Plain") "do") fd := T.def_ 101 (d := d_Plain_do) rfl
theorem f_Plain_reach (T : Tx w K mg) : ∃ fd, FunD K "reach" "Plain.reach" (defArgs s_Plain_reach) (defBody s_Plain_reach) (defScope s_Plain_reach) [] [] (ma K (ga K "Plain") "reach") fd := T.def_ 102 (d := d_Plain_reach) rfl
theorem f_Plain_kept (T : Tx w K mg) : ∃ fd, FunD K "kept" "Plain.kept" (defArgs s_Plain_kept) (defBody s_Plain_kept) (defScope s_Plain_kept) [] [] (ma K (ga K "Plain") "kept") fd := T.def_ 103 (d := d_Plain_kept) rfl
theorem f_Plain_photo (T : Tx w K mg) : ∃ fd, FunD K "photo" "Plain.photo" (defArgs s_Plain_photo) (defBody s_Plain_photo) (defScope s_Plain_photo) [] [] (ma K (ga K "Plain") "photo") fd := T.def_ 104 (d := d_Plain_photo) rfl
theorem k_SHAPES (T : Tx w K mg) : ∃ es n, KDict K w (ga K "SHAPES") es n := T.c.t.tab 0 (t := ((fun K => ga K "SHAPES"), ["make", "num", "copy", "drop", "put", "take", "cut", "watch", "last", "ask", "settle", "say"])) rfl
theorem k_ACTS (T : Tx w K mg) : ∃ es n, KDict K w (ga K "ACTS") es n := T.c.t.tab 1 (t := ((fun K => ga K "ACTS"), ["make", "num", "copy", "drop", "put", "take", "cut", "watch", "last", "ask", "settle", "say"])) rfl
end
end WK
set_option maxHeartbeats 0
/-! The head: one run of the top for each answer. -/
namespace WK
open PySem PySem.Spec PyProof.Rows L2 He WB
def loose0 : List Str := ["_wall", "__name__", "WhoError", "BadProgram", "NoThing", "BadTimes", "BadPhotos", "LETTERS", "KINDS", "ROW_MOST", "BOOK_MOST", "BOOK_KEYS", "as_value", "is_thing", "Thing", "Holder", "Record", "Row", "Book", "Watch", "new_thing", "NAMES", "MOST_DEEDS", "MOST_NUMBER", "MOST_PART", "SHAPES", "is_within", "is_word_of", "is_deed", "check_program"]
def loose1 : List Str := ["holdings", "Picture", "keeps", "totals", "CANNOT", "do_make", "do_num", "do_copy", "do_drop", "do_put", "do_take", "do_cut", "do_watch", "do_last", "do_ask", "do_settle", "do_say", "ACTS", "act", "Heap", "snapshot", "Plain", "LEAST_PHOTOS", "MOST_PHOTOS", "compared", "do_all", "growing", "grows", "keeps_another", "leak"]
def loose2 : List Str := ["_law_mix", "_law_next", "_law_first", "_law_down"]
def loose : List Str := loose0 ++ (loose1 ++ (loose2))
def adr : List Addr := [3, 2, 4, 31, 51, 63, 75, 87, 143, 209, 240, 287, 320, 353, 446, 652, 708, 6, 364, 545, 30, 50, 62, 74, 86, 142, 208, 239, 286, 319, 352, 445, 651, 707, 29, 49, 61, 73, 85, 90, 91, 141, 207, 238, 285, 318, 351, 363, 365, 366, 367, 368, 369, 370, 371, 372, 373, 374, 375, 376, 444, 650, 706, 21, 48, 98, 105, 119, 126, 133, 140, 161, 168, 175, 182, 189, 194, 199, 206, 223, 230, 237, 256, 263, 270, 277, 284, 303, 310, 317, 336, 343, 350, 362, 383, 390, 395, 402, 407, 421, 428, 433, 438, 443, 457, 462, 469, 476, 483, 490, 497, 504, 511, 518, 525, 532, 537, 544, 552, 564, 571, 578, 585, 592, 599, 604, 609, 616, 623, 630, 637, 644, 649, 663, 677, 684, 691, 698, 705, 717, 724, 731, 736, 741, 746, 753, 760, 767, 774, 779, 20, 47, 97, 104, 118, 125, 132, 139, 160, 167, 174, 181, 188, 193, 198, 205, 222, 229, 236, 255, 262, 269, 276, 283, 302, 309, 316, 335, 342, 349, 361, 382, 389, 394, 401, 406, 420, 427, 432, 437, 442, 456, 461, 468, 475, 482, 489, 496, 503, 510, 517, 524, 531, 536, 543, 551, 563, 570, 577, 584, 591, 598, 603, 608, 615, 622, 629, 636, 643, 648, 662, 676, 683, 690, 697, 704, 716, 723, 730, 735, 740, 745, 752, 759, 766, 773, 778]
abbrev R : PySem.W.OpenRow := PySem.W.OpenLaw.row PySem.Challenge.rw_whokeeps_k25_whole_a_leak_is_shown
abbrev hk : PySem.W.Hook := hookW adr fa fn ts fx tl
def ob (s : PySem.W.SharedT) : AlW := obsW fa fn ts fx tl (HandSHeadRun.getT s) adr
theorem ob_eq (s : PySem.W.SharedT) : ob s = hk.obs s.abs := obW_eq s
theorem runF (w : World) : HandSHeadRun.RunEq R (PySem.W.view R.prog [73]) hk ob 12000 loose (w.withFollow "special-get-raises" false) := by
  intro os
  kernel_rfl
theorem runT (w : World) : HandSHeadRun.RunEq R (PySem.W.view R.prog [73]) hk ob 12000 loose (w.withFollow "special-get-raises" true) := by
  intro os
  kernel_rfl
theorem run (w : World) : HandSHeadRun.RunEq R (PySem.W.view R.prog [73]) hk ob 12000 loose w := PySem.W.byRow2 "special-get-raises" runF runT w
end WK
set_option maxHeartbeats 4000000
/-! Calls whose callee is told where the call is read; defs by their promises. -/
namespace WB
open PySem PySem.Spec PyProof.Rows L2 He
/-- what stays through a whole run -/
structure C5 where
  P : Program
  w : World
  K : PySem.W.Frag
  mg : Str → Option Value
  base : Heap
abbrev five (X : Cx) : C5 := ⟨X.prog, X.w, X.K, X.mg, X.base⟩
/-- the def at f keeps the promise sp (no exception leaves it) -/
structure DefOk (M : C5) (k : Nat) (f : Addr) (ps : List Str) (sp : Sp) : Prop where
  ex : ∃ fd, FnOk M.P M.w M.K M.mg M.base CX0 k f fd ps sp ∧ Binds M.K fd ps []
  kp : PySem.W.keepIn M.K (.ref f) = true
/-- from the text: a def without defaults, its body walked -/
theorem DefOk.mk' {P : Program} {w : World} {K : PySem.W.Frag} {mg : Str → Option Value} {base : Heap} {x qual : Str} {pa : Arguments} {body : List Stmt} {sc : Scope} {f : Addr} {N ps : List Str} {k : Nat} {sp : Sp}
    (F : ∃ fd, FunD K x qual pa body sc [] [] f fd) (S : FnScope N ps sc)
    (hb : ∀ (kV doc pm : Value) (an : Option Addr) (cdv ct : Value) (us : List Value), us.length = ps.length → bindArgs (PySem.W.fnOf x qual pa body sc .none kV doc pm an cdv ct) ⟨us, []⟩ = pure (ps.zip us))
    (len : ∀ vs H Q E, sp vs H Q E → vs.length = ps.length)
    (hbody : ∀ (cdv : Value) (A : Around) (outer : List Env) (s : Shared) (H : Hp) (vs : List V) (Q : VK) (E : XK), Room k (A.deeper (envOfC qual sc s.heap.objs.size f cdv)) → sp vs H Q E →
      ∃ t, PSs (cxOf CX0 P w K mg base N qual sc f cdv A outer s H E).nox body t ∧ t { nx := fun _ H' => Q .non H', rt := Q } (start N vs) H) : DefOk ⟨P, w, K, mg, base⟩ (k + 1) f ps sp := by
  obtain ⟨fd, F⟩ := F
  refine ⟨⟨fd, ?_, F.bindsN hb⟩, F.kp⟩
  refine F.ok S len fun cdv A outer s H vs Q E hr h => ?_
  obtain ⟨t, p, q⟩ := hbody cdv A outer s H vs Q E hr h
  exact ⟨t, p.nox, q⟩
section
variable {X : Cx} {M : C5} {k0 : Nat} {x m : Str} {p pos apos : Pos} {e o : Expr} {es : List Expr} {ta : TE} {t : TA}
/-- f(..), f a def of the module -/
def tCG (M : C5) (k0 : Nat) (x : Str) (t : TA) : TE := fun σ H Q => ∃ (f : Addr) (ps : List Str) (sp : Sp) (k : Nat), M.mg x = some (.ref f) ∧ DefOk M k f ps sp ∧ k ≤ k0 ∧ t σ H fun vs H1 => sp vs H1 Q E0
theorem pe_cg (hM : five X = M) (hr : Room k0 X.A) (hg : Gl X x) (ha : PA X (e :: es) t) (hdb : (x == ("__debug__" : Str)) = false := by decide) (he : starEach (e :: es) X.env = (false, eval e X.env) :: starEach es X.env := by rfl) (hpl : (backTo pos (starEach es X.env)).any (·.1) = false := by rfl) :
    PE X (.Call (.Name x p) (e :: es) [] pos) (tCG M k0 x t) := by
  subst hM
  refine ⟨fun pins s σ H Q I ⟨f, ps, sp, k, hm, D, hk, h⟩ => ?_⟩
  obtain ⟨fd, F, b⟩ := D.ex
  refine (pe_call F (hr.mono hk) hg hm D.kp b .nil pass0 ha hdb he hpl).run pins s σ H Q I ?_
  have e2 : (fun vs H1 => sp (vs ++ []) H1 Q E0) = fun vs H1 => sp vs H1 Q E0 := by
    funext vs H1
    rw [List.append_nil]
  show t σ H fun vs H1 => sp (vs ++ []) H1 Q E0
  rw [e2]
  exact h
theorem pe_cg0 (hM : five X = M) (hr : Room k0 X.A) (hg : Gl X x) (hdb : (x == ("__debug__" : Str)) = false := by decide) : PE X (.Call (.Name x p) [] [] pos) (tCG M k0 x tNil) := by
  subst hM
  refine ⟨fun pins s σ H Q I ⟨f, ps, sp, k, hm, D, hk, h⟩ => ?_⟩
  obtain ⟨fd, F, b⟩ := D.ex
  exact (pe_call0 F (hr.mono hk) hg hm D.kp b .nil pass0 hdb).run pins s σ H Q I h
/-- C(..), C a class of one's own -/
def tMG (M : C5) (k0 : Nat) (x : Str) (t : TA) : TE := fun σ H Q => ∃ (C f : Addr) (ps : List Str) (sp : Sp) (k : Nat), M.mg x = some (.ref C) ∧ Mk M.K C f ∧ DefOk M k f ps sp ∧ k + 1 ≤ k0 ∧
  t σ H fun vs H1 => ∀ x dx, H1 x = none → H1 dx = none → dx ≠ x → sp (.ref x :: vs) (upd (upd H1 dx (.own x)) x (.ins C dx [])) (fun v H2 => v = .non ∧ Q (.ref x) H2) E0
theorem pe_mg (hM : five X = M) (hr : Room k0 X.A) (hg : Gl X x) (ha : PA X (e :: es) t) (hdb : (x == ("__debug__" : Str)) = false := by decide) (he : starEach (e :: es) X.env = (false, eval e X.env) :: starEach es X.env := by rfl) (hpl : (backTo pos (starEach es X.env)).any (·.1) = false := by rfl) :
    PE X (.Call (.Name x p) (e :: es) [] pos) (tMG M k0 x t) := by
  subst hM
  refine ⟨fun pins s σ H Q I ⟨C, f, ps, sp, k, hm, Mk, D, hk, h⟩ => ?_⟩
  obtain ⟨fd, F, b⟩ := D.ex
  refine (pe_make Mk F (hr.mono hk) hg hm b .nil pass0 ha hdb he hpl).run pins s σ H Q I ?_
  have e2 : (fun (vs : List V) (H1 : Hp) => ∀ x dx, H1 x = none → H1 dx = none → dx ≠ x → sp (.ref x :: (vs ++ [])) (upd (upd H1 dx (.own x)) x (.ins C dx [])) (fun v H2 => v = .non ∧ Q (.ref x) H2) E0) =
      fun vs H1 => ∀ x dx, H1 x = none → H1 dx = none → dx ≠ x → sp (.ref x :: vs) (upd (upd H1 dx (.own x)) x (.ins C dx [])) (fun v H2 => v = .non ∧ Q (.ref x) H2) E0 := by
    funext vs H1
    rw [List.append_nil]
  show t σ H (fun (vs : List V) (H1 : Hp) => ∀ x dx, H1 x = none → H1 dx = none → dx ≠ x → sp (.ref x :: (vs ++ [])) (upd (upd H1 dx (.own x)) x (.ins C dx [])) (fun v H2 => v = .non ∧ Q (.ref x) H2) E0)
  rw [e2]
  exact h
theorem pe_mg0 (hM : five X = M) (hr : Room k0 X.A) (hg : Gl X x) (hdb : (x == ("__debug__" : Str)) = false := by decide) : PE X (.Call (.Name x p) [] [] pos) (tMG M k0 x tNil) := by
  subst hM
  refine ⟨fun pins s σ H Q I ⟨C, f, ps, sp, k, hm, Mk, D, hk, h⟩ => ?_⟩
  obtain ⟨fd, F, b⟩ := D.ex
  exact (pe_make0 Mk F (hr.mono hk) hg hm b .nil pass0 hdb).run pins s σ H Q I h
/-- o.m(..), o an instance of a class that is told when the call is read -/
def tMD (M : C5) (k0 : Nat) (m : Str) (ta : TE) (t : TA) : TE := fun σ H Q => ta σ H fun x H1 => ∃ (a C dx : Addr) (fs : List (Str × V)) (f : Addr) (ps : List Str) (sp : Sp) (k : Nat), x = .ref a ∧ H1 a = some (.ins C dx fs) ∧ fs.lookup m = none ∧
  Cls M.K C ∧ Meth M.K C m f ∧ DefOk M k f ps sp ∧ k ≤ k0 ∧ t σ H1 fun vs H2 => sp (x :: vs) H2 Q E0
theorem pe_md {pl : Sem Bool} (hM : five X = M) (hr : Room k0 X.A) (he : PE X o ta) (ha : PA X (e :: es) t)
    (hst : starEach (e :: es) X.env = (false, eval e X.env) :: starEach es X.env := by rfl) (hpl : (backTo pos (starEach es X.env)).any (·.1) = false := by rfl)
    (ht : eval (.Call (.Attribute o m apos) (e :: es) [] pos) X.env = (do
      let ov ← eval o X.env
      standAt apos.atName
      let (f, first) ← holding [ov] (getMethod ov m pl)
      callWith pos f first (backTo pos (starEach (e :: es) X.env)) (backToKw pos (keywordEach [] X.env))) := by rfl) :
    PE X (.Call (.Attribute o m apos) (e :: es) [] pos) (tMD M k0 m ta t) := by
  subst hM
  refine ⟨fun pins s σ H Q I h => ?_⟩
  refine PySem.W.methodCall_KW (pl := pl) (thn (he.run pins s σ H _ I h) fun u s1 ⟨x, H1, I1, rx, a, C, dx, fs, f, ps, sp, k, ex, ea, l, c, hm, D, hk, q⟩ => ?_) ht
  subst ex
  obtain rfl : u = Value.ref a := rx
  obtain ⟨fd, F, b⟩ := D.ex
  refine getmeth_ok I1 ea c hm l ?_
  refine PySem.W.callWith_K (first := [.ref a]) (h₀ := X.base) I.ok.mod.kin hm.kp (thn (ha.run pos pins s1 σ H1 _ I1 q) fun us s2 ⟨vs, H2, I2, r, q2⟩ => ⟨I2.kIn, ?_⟩) hst hpl
  exact run_fn (us := .ref a :: us) (vs := .ref a :: vs) (dvs := []) F (hr.mono hk) b .nil pass0 I2 (.cons rfl r) (by rw [List.append_nil]; exact q2)
theorem pe_md0 {pl : Sem Bool} (hM : five X = M) (hr : Room k0 X.A) (he : PE X o ta)
    (ht : eval (.Call (.Attribute o m apos) [] [] pos) X.env = (do
      let ov ← eval o X.env
      standAt apos.atName
      let (f, first) ← holding [ov] (getMethod ov m pl)
      callWith pos f first (backTo pos (starEach [] X.env)) (backToKw pos (keywordEach [] X.env))) := by rfl) :
    PE X (.Call (.Attribute o m apos) [] [] pos) (tMD M k0 m ta tNil) := by
  subst hM
  refine ⟨fun pins s σ H Q I h => ?_⟩
  refine PySem.W.methodCall_KW (pl := pl) (thn (he.run pins s σ H _ I h) fun u s1 ⟨x, H1, I1, rx, a, C, dx, fs, f, ps, sp, k, ex, ea, l, c, hm, D, hk, q⟩ => ?_) ht
  subst ex
  obtain rfl : u = Value.ref a := rx
  obtain ⟨fd, F, b⟩ := D.ex
  refine getmeth_ok I1 ea c hm l ?_
  exact PySem.W.callWith_K0 (first := [.ref a]) I1.kIn hm.kp (run_fn (us := [.ref a]) (vs := [.ref a]) (dvs := []) F (hr.mono hk) b .nil pass0 I1 (.cons rfl .nil) (by rw [List.append_nil]; exact q))
/-- C.m(o, ..), C a class of one's own: its def m -/
def tCF (M : C5) (k0 : Nat) (c m : Str) (t : TA) : TE := fun σ H Q => ∃ (ps : List Str) (sp : Sp) (k : Nat), M.mg c = some (.ref (ga M.K c)) ∧ (Fx.cfun c m).ok M.K = true ∧ DefOk M k (ma M.K (ga M.K c) m) ps sp ∧ k ≤ k0 ∧ t σ H fun vs H1 => sp vs H1 Q E0
theorem pe_cf {pl : Sem Bool} {c : Str} {q : Pos} (hM : five X = M) (hr : Room k0 X.A) (hg : Gl X c) (ha : PA X (e :: es) t)
    (hst : starEach (e :: es) X.env = (false, eval e X.env) :: starEach es X.env := by rfl) (hpl : (backTo pos (starEach es X.env)).any (·.1) = false := by rfl) (hdb : (c == ("__debug__" : Str)) = false := by decide)
    (ht : eval (.Call (.Attribute (.Name c q) m apos) (e :: es) [] pos) X.env = (do
      let ov ← eval (.Name c q) X.env
      standAt apos.atName
      let (f, first) ← holding [ov] (getMethod ov m pl)
      callWith pos f first (backTo pos (starEach (e :: es) X.env)) (backToKw pos (keywordEach [] X.env))) := by rfl) :
    PE X (.Call (.Attribute (.Name c q) m apos) (e :: es) [] pos) (tCF M k0 c m t) := by
  subst hM
  refine ⟨fun pins s σ H Q I ⟨ps, sp, k, hm, hx, D, hk, h⟩ => ?_⟩
  obtain ⟨fd, F, b⟩ := D.ex
  obtain ⟨x1, x2⟩ := ba (show (PySem.W.readsIn X.K (ga X.K c) (.type "type") && (eqO (PySem.W.specialIn X.K (.ref (ga X.K c)) "__getattribute__") (some (some (.builtin "type.__getattribute__"))) &&
      valIs (PySem.W.findCls X.K (.ref (ga X.K c)) (.type "type") m) (ma X.K (ga X.K c) m))) = true from hx)
  obtain ⟨x2, x3⟩ := ba x2
  have he : PE X (.Name c q) (tC (.ref (ga X.K c))) := pe_glob hg hm rfl (hd := hdb)
  refine PySem.W.methodCall_KW (pl := pl) (thn (he.run pins s σ H (fun v H' => v = .ref (ga X.K c) ∧ H' = H) I ⟨rfl, rfl⟩) fun u s1 ⟨x, H1, I1, rx, ex, eh⟩ => ?_) ht
  subst ex
  subst eh
  obtain rfl : u = Value.ref (ga X.K c) := rx
  refine PySem.W.method_cls I1.kIn (eqO_ok x2) (PySem.W.cls_value I1.kIn x1 (valIs_ok x3) rfl ?_)
  have I2 := I1.tok (s1.toks + 1)
  refine PySem.W.callWith_K (first := []) (h₀ := X.base) I.ok.mod.kin D.kp (thn (ha.run pos pins _ σ H1 _ I2 h) fun us s2 ⟨vs, H2, I3, r, q2⟩ => ⟨I3.kIn, ?_⟩) hst hpl
  exact run_fn (us := us) (vs := vs) (dvs := []) F (hr.mono hk) b .nil pass0 I3 r (by rw [List.append_nil]; exact q2)
/-! ### readings that speak of K, within a comprehension -/
variable {K : PySem.W.Frag}
theorem pe_fldK {f : Str} (hK : X.K = K) (he : PE X e ta) (hb : attributeBase e f X.env (eval e X.env) = eval e X.env) : PE X (.Attribute e f pos) (tFld K ta f) := by
  subst hK; exact pe_fld he hb
theorem opK {f : Value → Value → Sem Value} (r : PySem.W.Frag → R2) (hK : X.K = K) (h : OpR X f (r X.K)) : OpR X f (r K) := by
  subst hK; exact h
theorem ixK (r : PySem.W.Frag → R2) (hK : X.K = K) (h : IxR X (r X.K)) : IxR X (r K) := by
  subst hK; exact h
theorem cbK {f : Value} (r : PySem.W.Frag → List V → Hp → VK → Prop) (hK : X.K = K) (h : CallR X f (r X.K)) : CallR X f (r K) := by
  subst hK; exact h
def rLenQ (K : PySem.W.Frag) : List V → Hp → VK → Prop := fun xs H Q => ∃ p ys, xs = [.ref p] ∧ (SqL K H p ys ∨ SqT K H p ys) ∧ Q (.int ys.length) H
theorem call_lenQ (hK : X.K = K) : CallR X (.builtin "len") (rLenQ K) := by
  subst hK; exact call_len_seq
theorem pg_tupK {es : List Expr} {k : Nat} {t : TGs} {n : Nat} (hK : X.K = K) (hc : X.calm = true) (h : PGs X es t)
    (hn : (assignEach es X.env).length = n := by rfl) (hst : (assignEach es X.env).findIdx? (·.1) = none := by rfl) : PG X (.Tuple es k pos) (gTup K n t) := by
  subst hK; exact pg_tup hc h hn hst
end
end WB
/-! A text in a range: all are compared, none is it. -/
namespace WB
open PySem PySem.Spec PyProof.Rows L2
theorem plain_rng_loop : plainId "range.__contains__.loop" = true := by decide +kernel
theorem entry_rng_loop : entryFor table "range.__contains__.loop" = some Builtin.«range.__contains__.loop» := entryFor_of_fast (by kernel_rfl)
theorem rng_loop (r : Addr) (lo hi : Int) (t u v : Tok) (x : Str) (k : Tok) (m : Nat) : ∀ i : Nat, (Builtin.Range.rangeSize lo hi 1).toNat - i = m →
    Meets (Builtin.«range.__contains__.loop» ⟨[.ref r, .str x k, rawInt i], []⟩)
      (fun _ R s => s.heap.get? r = some { cls := .type "range", dict := none, data := .fields #[.int lo t, .int hi u, .int 1 v], slots := #[] } ∧ ∀ tk, R (.ok (.ret (.bool false))) { s with toks := tk }) := by
  induction m with
  | zero =>
    intro i hk prog w A R s h
    obtain ⟨hp, g, d, tk, os⟩ := s; obtain ⟨hl, h⟩ := h
    wp_walk
    have hi : ((i : Nat) : Int) ≥ Builtin.Range.rangeSize lo hi 1 := by omega
    rw [if_pos hi]
    exact wpAny_pure (h tk)
  | succ m ih =>
    intro i hk prog w A R s h
    obtain ⟨hp, g, d, tk, os⟩ := s; obtain ⟨hl, h⟩ := h
    wp_walk
    have hn : ¬ ((i : Nat) : Int) ≥ Builtin.Range.rangeSize lo hi 1 := by omega
    rw [if_neg hn]
    refine wpAny_bind (wpAny_mkInt (wpAny_bind (SeqAt.EqAt.int_str _ _ _ _ prog w _ _ ?_)))
    have hc : ((i : Int) + 1) = ((i + 1 : Nat) : Int) := by push_cast; rfl
    wp_walk
    rw [hc]
    exact ⟨plainId_quiet plain_rng_loop _, codeAny_builtin entry_rng_loop (by
      rw [Around.under_plainId plain_rng_loop _]
      exact ih (i + 1) (by omega) prog w A R _ ⟨hl, h⟩)⟩
theorem rng_contains_str (r : Addr) (lo hi : Int) (t u v : Tok) (x : Str) (k : Tok) :
    Meets (Builtin.«range.__contains__» ⟨[.ref r, .str x k], []⟩)
      (fun _ R s => s.heap.get? r = some { cls := .type "range", dict := none, data := .fields #[.int lo t, .int hi u, .int 1 v], slots := #[] } ∧ ∀ tk, R (.ok (.ret (.bool false))) { s with toks := tk }) := by
  intro prog w A R s h
  obtain ⟨hp, g, d, tk, os⟩ := s; obtain ⟨hl, h⟩ := h
  wp_walk
  exact ⟨plainId_quiet plain_rng_loop _, codeAny_builtin entry_rng_loop (by
    rw [Around.under_plainId plain_rng_loop _]
    exact rng_loop r lo hi t u v x k _ 0 rfl prog w A R _ ⟨hl, h⟩)⟩
/-- a key (an int, a text) in a range -/
def inR (lo hi : Int) : Key → Bool
  | .inl i => decide (lo ≤ i ∧ i < hi)
  | .inr _ => false
variable {X : Cx}
def rInR : R2 := fun x y H Q => ∃ (k : Key) (a : Addr) (lo hi : Int), x = kV k ∧ y = V.ref a ∧ H a = some (.rng lo hi) ∧ Q (.bl (inR lo hi k)) H
theorem op_in_rngK : OpR X (compareOp .In) rInR := by
  intro pins s σ H x y v u Q I rx ry h
  obtain ⟨k, a, lo, hi, rfl, rfl, ha, q⟩ := h
  obtain ⟨t1, t2, t3, ho⟩ := I.hok a _ ha
  cases k with
  | inl i => exact op_in_rng pins s σ H (.int i) (.ref a) v u Q I rx ry ⟨i, a, lo, hi, rfl, rfl, ha, q⟩
  | inr z =>
    obtain ⟨k, rfl⟩ := (show ∃ t, v = Value.str z t from rx)
    obtain rfl : u = Value.ref a := ry
    show wpAny _ _ (do return Value.bool (← contains (Value.ref a) (Value.str z k))) _ _ s
    refine wpAny_bind (wpAny_contains_slot (T := "range") ⟨_, ho, rfl⟩ F.slot_range_contains (call_meets F.slot_range_contains ⟨_, ho, rfl⟩ F.entry_range_contains (F.args_range_contains_2 _ _) (rng_contains_str a lo hi t1 t2 t3 z k)
      ⟨ho, fun tk => wpAny_truthy_bool (wpAny_pure ⟨.bl false, H, I.tok tk, rfl, q⟩)⟩))
/-- range(n) as a value -/
theorem cr_range1K : CallR X (.type "range") (fun vs H Q => ∃ j, vs = [V.int j] ∧ ∀ p, H p = none → Q (.ref p) (upd H p (.rng 0 j))) := by
  intro pins s σ H vs us Q I r h
  obtain ⟨j, rfl, q⟩ := h
  obtain ⟨u1, rfl, rj⟩ := vals1 r
  obtain ⟨t, rfl⟩ := rj
  refine call_range_1 ⟨.ref s.heap.objs.size, upd H s.heap.objs.size (.rng 0 j), I.laid (t' := s.toks + 1 + 1) (fun b o e => Heap.get?_push_of_some _ e) (Nat.le_refl _) ?_, rfl, q _ (I.hok.fresh (Nat.le_refl _))⟩
  exact ⟨s.toks, t, s.toks + 1, Heap.get?_push_size _ rfl⟩
end WB
/-! sorted(d) of a dict whose keys are ints, of any length. -/
namespace WB
open PySem PySem.Spec PyProof.Rows L2
variable {X : Cx}
def rSortD : List V → Hp → VK → Prop := fun xs H Q => ∃ (a : Addr) (kvs : List (Key × V)) (ks : List Int), xs = [.ref a] ∧ Rd H a (.dK kvs) ∧ kvs.map (·.1) = ks.map Sum.inl ∧
  ∀ (ys : List Int) (p : Addr), ys.Perm ks → ys.Pairwise (· ≤ ·) → H p = none → Q (.ref p) (upd H p (.lst (ys.map V.int)))
theorem cr_sortD (hcalm : X.calm = true) : CallR X (.builtin "sorted") rSortD := by
  rintro pins s σ H xs us Q I r ⟨a, kvs, ks, rfl, hd, hks, q⟩
  obtain ⟨u0, rfl, r0⟩ := vals1 r
  cases r0
  obtain ⟨hz, lo, vs, rel, dd⟩ := dk_rd I.hok hd
  obtain ⟨ep, hat⟩ := dd.dictAt
  have kk : vs.map (·.1) = ks.map Sum.inl := rel.keys.symm.trans hks
  have ln : vs.length = ks.length := by
    simpa using congrArg List.length kk
  have ln2 : kvs.length = ks.length := by
    simpa using congrArg List.length hks
  have hz2 : vs.length ≤ sizeLine := by rw [ln, ← ln2]; exact hz
  refine Calls.call_function_entry kind_sorted plain_sorted entry_sorted (args_sorted1 _) ?_
  unfold Builtin.«sorted»
  refine wpAny_bind (m := checkCount "sorted" 1 1 _) (wpAny_pure ?_)
  refine wpAny_bind (PySem.W.kdu_collect (A := X.A.in1) (PySem.W.kdl_dict (knd := mixKind X.prog X.w) (kvs := vs) (ep := ep) lo) (I.ok.hd hcalm) hat hz2 fun h1 tk acc hk ha => ?_)
  have la : acc.toList.length = ks.length := by rw [Array.length_toList, ha.1, ln]
  have hS : IntsAre acc.toList ks := ints_each la fun j v e => by
    obtain ⟨k, x, g1, g2⟩ := ha.2 j v (by rw [← Array.getElem?_toList]; exact e)
    have g3 : (vs.map (·.1))[j]? = some k := by rw [List.getElem?_map, g1]; rfl
    rw [kk, List.getElem?_map] at g3
    obtain ⟨y, hy, ey⟩ := Option.map_eq_some_iff.mp g3
    subst ey
    rcases keyIs_shape (show keyIs (Sum.inl y) v = true from g2) with ⟨i, t, ek, ev⟩ | ⟨z, t, ek, ev⟩
    · cases ek
      exact ⟨y, t, hy, ev⟩
    · cases ek
  have I1 : Inv X pins σ H { s with heap := h1, toks := tk } := I.kept hk
  have la2 : acc.toList.length ≤ sizeLine := by rw [la, ← ln2]; exact hz
  refine wpAny_bind (wpAny_newList ?_ la2)
  have hoL : (h1.push (seqObj "list" acc.toList.toArray 0)).get? h1.objs.size = some (seqObj "list" acc.toList.toArray 0) := Heap.get?_push_size _ rfl
  show wpAny _ _ _ _ _ { s with heap := h1.push (seqObj "list" acc.toList.toArray 0), toks := tk }
  refine wpAny_bind (wpAny_holding (wpAny_call_entry slot_list_sort ⟨_, hoL, rfl⟩ entry_list_sort
    (SrtO.list_sort_ord (s := { s with heap := h1.push (seqObj "list" acc.toList.toArray 0), toks := tk }) SrtO.swo_int hoL la2 (fun h2 => SrtO.ints_sortable hS h2) fun out e1 e2 => ⟨_, rfl, ?_⟩) (args_list_sort _)))
  obtain ⟨k1, k2, k3⟩ := SrtO.ints_out hS e1 e2
  obtain ⟨e', he'⟩ := sortedHeap_at (vs := acc.toList) (out := out.toArray) hoL
  have lo2 : ((out.map SrtO.iv).map V.int).length ≤ sizeLine := by
    rw [List.length_map, k2.length_eq, ← ln2]; exact hz
  refine wpAny_pure ⟨_, rfl, .ref h1.objs.size, upd H h1.objs.size (.lst ((out.map SrtO.iv).map V.int)), I1.laid (t' := tk) (fun b u e => ?_) (Nat.le_refl _)
    (show ObjOk X.prog X.w _ _ _ (.lst ((out.map SrtO.iv).map V.int)) from ⟨lo2, out, e', vals_of_ints k1, he'⟩), rfl, q _ _ k2 k3 (I1.hok.fresh (Nat.le_refl _))⟩
  have hlt : b < h1.objs.size := Heap.lt_size e
  rw [sortedHeap_old (Nat.ne_of_lt hlt) (by rw [size_push']; exact Nat.lt_succ_of_lt hlt)]
  exact Heap.get?_push_of_some _ e
end WB
/-! The state of a program, and how a heap bears it. An abstract value is a V, too: .ref k is the thing of number k. -/
namespace WB
open PySem PySem.Spec PyProof.Rows L2 He
/-! ### heaps -/
/-- all that stood stands, but what O owns -/
def Stp (O : List Addr) (H H' : Hp) : Prop := ∀ a o, H a = some o → a ∉ O → H' a = some o
theorem Stp.refl (O : List Addr) (H : Hp) : Stp O H H := fun _ _ e _ => e
theorem Stp.of_same {O : List Addr} {H H' : Hp} (s : Same H H') : Stp O H H' := fun a o e _ => s a o e
theorem Stp.mono {O O' : List Addr} {H H' : Hp} (s : Stp O H H') (h : ∀ a ∈ O, a ∈ O') : Stp O' H H' := fun a o e n => s a o e fun m => n (h a m)
/-- what O' owns is O's or new -/
def Frs (O O' : List Addr) (H : Hp) : Prop := ∀ a ∈ O', a ∈ O ∨ H a = none
theorem Frs.refl (O : List Addr) (H : Hp) : Frs O O H := fun _ h => .inl h
theorem Stp.trans {O O' : List Addr} {H H1 H2 : Hp} (s : Stp O H H1) (f : Frs O O' H) (t : Stp O' H1 H2) : Stp O H H2 := fun a o e n =>
  t a o (s a o e n) fun m => (f a m).elim n fun z => by rw [e] at z; cases z
theorem Stp.trans' {O : List Addr} {H H1 H2 : Hp} (s : Stp O H H1) (t : Stp O H1 H2) : Stp O H H2 := s.trans (Frs.refl O H) t
theorem Frs.trans {O O1 O2 : List Addr} {H H1 : Hp} (f : Frs O O1 H) (s : Stp O H H1) (g : Frs O1 O2 H1) : Frs O O2 H := fun a m =>
  (g a m).elim (f a) fun z => by
    by_cases h : a ∈ O
    · exact .inl h
    · cases e : H a with
      | none => exact .inr rfl
      | some o => rw [s a o e h] at z; cases z
theorem Stp.upd {O : List Addr} {H : Hp} {a : Addr} {o : HO} (h : a ∈ O ∨ H a = none) : Stp O H (upd H a o) := fun b u e n => by
  have : b ≠ a := by
    rintro rfl
    exact h.elim n fun z => by rw [e] at z; cases z
  rw [upd_ne this]; exact e
theorem same_new {H : Hp} {p : Addr} {o : HO} (h : H p = none) : Same H (upd H p o) := fun b u e => by
  rw [upd_ne (ne_of_none e h)]; exact e
theorem same_mut {H H' : Hp} {p : Addr} {o : HO} (s : Same H H') (h : H p = none) : Same H (upd H' p o) := fun b u e => by
  rw [upd_ne (ne_of_none e h)]; exact s b u e
/-! ### values -/
def VR (H : Hp) : V → V → Prop
  | v, .ref k => ∃ a, v = .ref a ∧ H a = some (.tup [.str "thing", .int (k : Int)])
  | v, .non => v = .non
  | v, .int i => v = .int i
  | _, _ => False
/-- what never changes -/
def still : HO → Bool
  | .tup _ => true
  | .ext _ => true
  | _ => false
/-- tuples stay, and what is told by a word of its own -/
structure Tup (H H' : Hp) : Prop where
  tup : ∀ a xs, H a = some (.tup xs) → H' a = some (.tup xs)
  ext : ∀ a φ, H a = some (.ext φ) → H' a = some (.ext φ)
instance {H H' : Hp} : CoeFun (Tup H H') (fun _ => ∀ a xs, H a = some (.tup xs) → H' a = some (.tup xs)) := ⟨Tup.tup⟩
theorem Tup.refl (H : Hp) : Tup H H := ⟨fun _ _ e => e, fun _ _ e => e⟩
theorem Same.tup {H H' : Hp} (s : Same H H') : Tup H H' := ⟨fun a _ e => s a _ e, fun a _ e => s a _ e⟩
theorem Tup.trans {H H1 H2 : Hp} (a : Tup H H1) (b : Tup H1 H2) : Tup H H2 := ⟨fun p xs e => b.tup p xs (a.tup p xs e), fun p xs e => b.ext p xs (a.ext p xs e)⟩
theorem VR.mono {H H' : Hp} (s : Tup H H') {v x : V} (h : VR H v x) : VR H' v x := by
  cases x <;> first | exact h | skip
  obtain ⟨a, e1, e2⟩ := h
  exact ⟨a, e1, s _ _ e2⟩
theorem VR.non {H : Hp} : VR H .non .non := rfl
theorem VR.int {H : Hp} (i : Int) : VR H (.int i) (.int i) := rfl
theorem VR.thing {H : Hp} {a : Addr} {k : Nat} (e : H a = some (.tup [.str "thing", .int (k : Int)])) : VR H (.ref a) (.ref k) := ⟨a, rfl, e⟩
/-- what an abstract value is -/
theorem VR.cases {H : Hp} {v x : V} (h : VR H v x) : (v = .non ∧ x = .non) ∨ (∃ i, v = .int i ∧ x = .int i) ∨ ∃ a k, v = .ref a ∧ x = .ref k ∧ H a = some (.tup [.str "thing", .int (k : Int)]) := by
  cases x with
  | non => exact .inl ⟨h, rfl⟩
  | int i => exact .inr (.inl ⟨i, h, rfl⟩)
  | ref k => obtain ⟨a, e1, e2⟩ := h; exact .inr (.inr ⟨a, k, e1, rfl, e2⟩)
  | _ => exact h.elim
abbrev LVR (H : Hp) : List V → List V → Prop := Paired (VR H)
abbrev KVR (H : Hp) : List (Key × V) → List (Key × V) → Prop := Paired fun p q => p.1 = q.1 ∧ VR H p.2 q.2
theorem Paired.imp {α β : Type} {R S : α → β → Prop} (h : ∀ a b, R a b → S a b) : ∀ {xs : List α} {ys : List β}, Paired R xs ys → Paired S xs ys
  | _, _, .nil => .nil
  | _, _, .cons r t => .cons (h _ _ r) (Paired.imp h t)
theorem Paired.app {α β : Type} {R : α → β → Prop} : ∀ {xs xs' : List α} {ys ys' : List β}, Paired R xs ys → Paired R xs' ys' → Paired R (xs ++ xs') (ys ++ ys')
  | _, _, _, _, .nil, h => h
  | _, _, _, _, .cons r t, h => .cons r (Paired.app t h)
theorem Paired.at {α β : Type} {R : α → β → Prop} : ∀ {xs : List α} {ys : List β} (i : Nat), Paired R xs ys → (xs[i]? = none ∧ ys[i]? = none) ∨ ∃ x y, xs[i]? = some x ∧ ys[i]? = some y ∧ R x y
  | _, _, _, .nil => .inl ⟨by simp, by simp⟩
  | _, _, 0, .cons r _ => .inr ⟨_, _, rfl, rfl, r⟩
  | _, _, i + 1, .cons _ t => by simpa using Paired.at i t
theorem Paired.setP {α β : Type} {R : α → β → Prop} {x : α} {y : β} (h : R x y) : ∀ {xs : List α} {ys : List β} (i : Nat), Paired R xs ys → Paired R (xs.set i x) (ys.set i y)
  | _, _, _, .nil => .nil
  | _, _, 0, .cons _ t => .cons h t
  | _, _, i + 1, .cons r t => .cons r (Paired.setP h i t)
theorem Paired.erase {α β : Type} {R : α → β → Prop} : ∀ {xs : List α} {ys : List β} (i : Nat), Paired R xs ys → Paired R (xs.eraseIdx i) (ys.eraseIdx i)
  | _, _, _, .nil => .nil
  | _, _, 0, .cons _ t => t
  | _, _, i + 1, .cons r t => .cons r (Paired.erase i t)
theorem LVR.mono {H H' : Hp} (s : Tup H H') {xs ys : List V} (h : LVR H xs ys) : LVR H' xs ys := Paired.imp (fun _ _ r => VR.mono s r) h
theorem KVR.mono {H H' : Hp} (s : Tup H H') {xs ys : List (Key × V)} (h : KVR H xs ys) : KVR H' xs ys := Paired.imp (fun _ _ r => ⟨r.1, VR.mono s r.2⟩) h
theorem KVR.keys {H : Hp} : ∀ {xs ys : List (Key × V)}, KVR H xs ys → xs.map (·.1) = ys.map (·.1)
  | _, _, .nil => rfl
  | _, _, .cons r t => by rw [List.map_cons, List.map_cons, r.1, KVR.keys t]
theorem KVR.val {H : Hp} (k : Key) : ∀ {xs ys : List (Key × V)}, KVR H xs ys → (valV xs k = none ∧ valV ys k = none) ∨ ∃ v x, valV xs k = some v ∧ valV ys k = some x ∧ VR H v x
  | _, _, .nil => .inl ⟨rfl, rfl⟩
  | p :: xs, q :: ys, .cons r t => by
    by_cases e : q.1 = k
    · exact .inr ⟨p.2, q.2, valV_pos (r.1.trans e), valV_pos e, r.2⟩
    · rw [valV_neg (by rw [r.1]; exact e), valV_neg e]
      exact KVR.val k t
theorem KVR.val_some {H : Hp} {k : Key} {xs ys : List (Key × V)} {x : V} (h : KVR H xs ys) (e : valV ys k = some x) : ∃ v, valV xs k = some v ∧ VR H v x := by
  rcases h.val k with ⟨_, z⟩ | ⟨v, y, h1, h2, r⟩
  · rw [e] at z; cases z
  · rw [e] at h2; cases h2; exact ⟨v, h1, r⟩
theorem KVR.val_none {H : Hp} {k : Key} {xs ys : List (Key × V)} (h : KVR H xs ys) (e : valV ys k = none) : valV xs k = none := by
  rcases h.val k with ⟨z, _⟩ | ⟨v, y, h1, h2, r⟩
  · exact z
  · rw [e] at h2; cases h2
theorem KVR.any {H : Hp} (k : Key) {xs ys : List (Key × V)} (h : KVR H xs ys) : (valV xs k).isSome = (valV ys k).isSome := by
  rcases h.val k with ⟨a, b⟩ | ⟨v, y, a, b, _⟩ <;> rw [a, b]
  rfl
theorem KVR.put {H : Hp} {k : Key} {v x : V} (r : VR H v x) {xs ys : List (Key × V)} (h : KVR H xs ys) : KVR H (putK xs k v) (putK ys k x) := by
  unfold putK
  rw [valV_any, valV_any, h.any k]
  by_cases q : (valV ys k).isSome = true
  · rw [if_pos q, if_pos q]
    clear q
    induction h with
    | nil => exact .nil
    | cons r1 t ih =>
      rename_i p q _ _
      refine .cons ?_ ih
      dsimp only
      by_cases e : q.1 = k
      · rw [if_pos e, if_pos (by rw [r1.1]; exact e)]
        exact ⟨r1.1, r⟩
      · rw [if_neg e, if_neg (by rw [r1.1]; exact e)]
        exact r1
  · rw [if_neg q, if_neg q]
    exact Paired.app h (.cons ⟨rfl, r⟩ .nil)
theorem KVR.drop {H : Hp} {k : Key} {xs ys : List (Key × V)} (h : KVR H xs ys) : KVR H (dropK xs k) (dropK ys k) := by
  unfold dropK
  induction h with
  | nil => exact .nil
  | cons r t ih =>
    rename_i p q _ _
    by_cases e : q.1 = k
    · rw [List.filter_cons_of_neg (by simp [r.1, e]), List.filter_cons_of_neg (by simp [e])]
      exact ih
    · rw [List.filter_cons_of_pos (by simp [r.1, e]), List.filter_cons_of_pos (by simp [e])]
      exact .cons r ih
theorem putK_keys {ys : List (Key × V)} {k : Key} {x : V} (h : k ∈ ys.map (·.1)) : (putK ys k x).map (·.1) = ys.map (·.1) := by
  unfold putK
  have q : (ys.any fun kv => decide (kv.1 = k)) = true := by
    obtain ⟨p, hp, e⟩ := List.mem_map.mp h
    exact List.any_eq_true.mpr ⟨p, hp, decide_eq_true e⟩
  rw [if_pos q, List.map_map]
  apply List.map_congr_left
  intro p _
  show (if p.1 = k then (p.1, x) else p).1 = p.1
  split <;> rfl
/-! ### things -/
inductive Body where
  /-- a record (r) or a book: entries in their dict's order -/
  | dic (r : Bool) (kvs : List (Key × V))
  | row (xs : List V)
  | wat (sees : Nat) (gone : Bool)
inductive Lst where
  | no | due | done
  deriving DecidableEq
structure Th where
  body : Body
  last : Lst
  goal : V
def Body.kind : Body → Str
  | .dic true _ => "record"
  | .dic false _ => "book"
  | .row _ => "row"
  | .wat _ _ => "watch"
def Body.cls : Body → Str
  | .dic true _ => "Record"
  | .dic false _ => "Book"
  | .row _ => "Row"
  | .wat _ _ => "Watch"
/-- its parts, rising; what a watch sees is no part -/
def letK : List Key := [.inr "a", .inr "b", .inr "c", .inr "d"]
def nmS : List Str := ["p", "q", "r", "s", "t", "u", "v", "w"]
def nmK : List Key := nmS.map Sum.inr
structure Sta where
  names : List (Key × V)
  made : Nat
  th : Nat → Th
def Sta.setName (S : Sta) (x : Str) (v : V) : Sta := { S with names := putK S.names (.inr x) v }
def Sta.setTh (S : Sta) (k : Nat) (t : Th) : Sta := { S with th := fun j => if j = k then t else S.th j }
def Sta.look (S : Sta) (x : Str) : V := (valV S.names (.inr x)).getD .non
end WB
/-! list(enumerate(xs)) of a list: a new list of new pairs. -/
namespace WB
open PySem PySem.Calls PyProof.Rows PyProof.V PySem.Spec L2 He PySem.W
def enK {α : Type} : Nat → List α → List (Key × α)
  | _, [] => []
  | i, x :: r => (Sum.inl (i : Int), x) :: enK (i + 1) r
theorem enK_len {α : Type} : ∀ (xs : List α) (a : Nat), (enK a xs).length = xs.length
  | [], _ => rfl
  | _ :: r, a => congrArg (· + 1) (enK_len r (a + 1))
theorem enK_get {α : Type} : ∀ (xs : List α) (a i : Nat) {x : α}, xs[i]? = some x → (enK a xs)[i]? = some (Sum.inl ((a + i : Nat) : Int), x)
  | [], _, _, _, h => by cases h
  | _ :: _, _, 0, _, h => by cases Option.some.inj h; rfl
  | _ :: r, a, i + 1, x, h => by
    have q := enK_get r (a + 1) i (x := x) h
    rw [show a + 1 + i = a + (i + 1) from by omega] at q
    exact q
theorem enK_rel : ∀ (xs : List V) (us : List Value) (a : Nat), Vals xs us → KV (enK a xs) (enK a us)
  | _, _, _, .nil => .nil
  | _, _, a, .cons r t => .cons ⟨rfl, r⟩ (enK_rel _ _ (a + 1) t)
theorem enK_zip : ∀ (xs : List V) (a : Nat), enK a xs = (xs.zipIdx a).map fun p => ((Sum.inl (p.2 : Int) : Key), p.1)
  | [], _ => rfl
  | _ :: r, a => by rw [List.zipIdx_cons, List.map_cons, ← enK_zip r (a + 1)]; rfl
def EnS (h : Heap) (e it l S : Addr) (i : Nat) (items : Array Value) : Prop :=
  h.IsListIter it l i ∧ h.IsList l items ∧ ((∃ old, IsEnum h e it (i : Int) old) ∨ ∃ old T f oT, IsEnumHeld h e it (i : Int) old T f ∧ h.get? T = some oT ∧ T ≠ e ∧ T ≠ it ∧ T ≠ S)
theorem EnS.keep {h h' : Heap} {e it l S : Addr} {i : Nat} {items : Array Value} (x : EnS h e it l S i items) (hk : ∀ b o, b ≠ S → h.get? b = some o → h'.get? b = some o) (he : e ≠ S) (hi : it ≠ S) (hl : l ≠ S) : EnS h' e it l S i items := by
  obtain ⟨a, b, c⟩ := x
  refine ⟨a.at fun o q => hk _ o hi q, b.at fun o q => hk _ o hl q, ?_⟩
  rcases c with ⟨old, q⟩ | ⟨old, T, f, oT, q, hT, r1, r2, r3⟩
  · exact .inl ⟨old, hk _ _ he q⟩
  · exact .inr ⟨old, T, f, oT, hk _ _ he q, hk _ _ r3 hT, r1, r2, r3⟩
section
variable {prog : Program} {w : World} {A : Around} {E : Value → Shared → Prop} {s : Shared}
theorem en_item {e it l S : Addr} {i : Nat} {items : Array Value} {x : Value} {Q : Option Value → Shared → Prop} (hst : EnS s.heap e it l S i items) (hS : S < s.heap.objs.size) (hx : items[i]? = some x) (hei : e ≠ it) (hle : l ≠ e) (hli : l ≠ it)
    (hQ : ∀ t h', EnS h' e it l S (i + 1) items → h'.get? s.heap.objs.size = some { cls := .type "tuple", data := .seq #[.int i t, x] } → h'.objs.size = s.heap.objs.size + 1 → (∀ b o, b ≠ e → b ≠ it → s.heap.get? b = some o → h'.get? b = some o) → Q (some (.ref s.heap.objs.size)) { s with heap := h', toks := s.toks + 1 }) :
    wpAny (model prog w) A (pyNext (.ref e)) Q E s := by
  obtain ⟨hit, hl, he⟩ := hst
  have ec : ((i + 1 : Nat) : Int) = (i : Int) + 1 := by omega
  have nit : s.heap.objs.size ≠ it := let ⟨_, x, _⟩ := hit; Nat.ne_of_gt (Heap.lt_size x)
  rcases he with ⟨old, he⟩ | ⟨old, T, f, oT, he, hT, r1, r2, r3⟩
  · refine wpAny_pyNext_enum_item he hit hl hx hei fun h' ho hit' hT hsz hk => ?_
    exact hQ _ h' ⟨hit', hl.at fun o x => hk l o hle hli x, .inr ⟨_, s.heap.objs.size, false, _, (by rw [ec]; exact ho), hT, Nat.ne_of_gt (Heap.lt_size he), nit, Nat.ne_of_gt hS⟩⟩ hT hsz hk
  · refine wpAny_pyNext_enum_item_held he hT r1 r2 hit hl hx hei fun h' ho hit' hT' hsz hk => ?_
    exact hQ _ h' ⟨hit', hl.at fun o x => hk l o hle hli x, .inr ⟨old, T, true, oT, (by rw [ec]; exact ho), hk _ _ r1 r2 hT, r1, r2, r3⟩⟩ hT' hsz hk
theorem en_done {e it l S : Addr} {i : Nat} {items : Array Value} {Q : Option Value → Shared → Prop} (hh : A.handled = none) (hst : EnS s.heap e it l S i items) (hx : items[i]? = none)
    (hQ : ∀ h', Heap.ExtBut it s.heap h' → Q none { s with heap := h' }) : wpAny (model prog w) A (pyNext (.ref e)) Q E s := by
  obtain ⟨hit, hl, he⟩ := hst
  rcases he with ⟨old, he⟩ | ⟨old, T, f, oT, he, hT, r1, r2, r3⟩
  · exact wpAny_pyNext_enum_end hh he hit hl hx hQ
  · exact wpAny_pyNext_enum_end_held hh he hit hl hx hQ
end
section
variable {prog : Program} {w : World} {A : Around} {s : Shared} {R : Result → Shared → Prop} {items : Array Value}
theorem en_loop {S e it l : Addr} (hh : A.handled = none) (hSe : e < S) (hSi : it < S) (hSl : l ≠ S) (hei : e ≠ it) (hle : l ≠ e) (hli : l ≠ it) (hn : items.size ≤ sizeLine) (res : Value) {h₁ : Heap}
    (hR : ∀ h' tk acc c as, (∀ b o, b ≠ S → b ≠ e → b ≠ it → h₁.get? b = some o → h'.get? b = some o) → h'.get? S = some { cls := .type "list", dict := none, data := .seq acc c, slots := #[] } → as.length = items.size → KdxG (mixKind prog w) (enK 0 items.toList) S h' as →
      acc.toList = as.map Value.ref → R (.ok (.ret res)) { s with heap := h', toks := tk }) :
    ∀ (k i : Nat) (h : Heap) (tk c : Nat) (acc : Array Value) (as : List Addr), items.size - i = k → i ≤ items.size → EnS h e it l S i items → (∀ b o, b ≠ S → b ≠ e → b ≠ it → h₁.get? b = some o → h.get? b = some o) →
      h.get? S = some { cls := .type "list", dict := none, data := .seq acc c, slots := #[] } → acc.toList = as.map Value.ref → as.length = i → KdxG (mixKind prog w) (enK 0 items.toList) S h as → S < h.objs.size →
      codeAny (model prog w) A (.builtin "list.extend.loop" ⟨[.ref S, .ref e, res], []⟩) R { s with heap := h, toks := tk } := by
  have hneE : S ≠ e := Nat.ne_of_gt hSe
  have hneI : S ≠ it := Nat.ne_of_gt hSi
  intro k
  induction k with
  | zero =>
    intro i h tk c acc as hk hi hst hkeep hS hacc hal hG hIs
    have hin : i = items.size := by omega
    refine codeAny_builtin PySem.F.entry_extend_loop ?_
    rw [Around.under_plainId PySem.F.plain_extend_loop _]
    show wpAny _ A.in1 (pyNext (.ref e) >>= _) _ _ _
    refine wpAny_bind (en_done (s := { s with heap := h, toks := tk }) (A := A.in1) hh hst (Array.getElem?_eq_none (by omega)) fun h' he => ?_)
    refine wpAny_pure (hR h' tk acc c as (fun b o h1 h2 h3 q => he b o h3 (hkeep b o h1 h2 h3 q)) (he S _ hneI hS) (by omega) ⟨hG.rise, hG.above, fun j a hj => ?_⟩ hacc)
    obtain ⟨key, kk, x, e1, e2, e3⟩ := hG.pairs j a hj
    have ha := hG.above a (List.mem_of_getElem? hj)
    exact ⟨key, kk, x, e1, e2, he a _ (Nat.ne_of_gt (Nat.lt_trans hSi ha)) e3⟩
  | succ k ih =>
    intro i h tk c acc as hk hi hst hkeep hS hacc hal hG hIs
    have hlt : i < items.size := by omega
    have hx := Array.getElem?_eq_getElem hlt
    have hsz : acc.size = i := by rw [← Array.length_toList, hacc, List.length_map, hal]
    have hSl' : S < h.objs.size := Heap.lt_size hS
    refine codeAny_builtin PySem.F.entry_extend_loop ?_
    rw [Around.under_plainId PySem.F.plain_extend_loop _]
    show wpAny _ A.in1 (pyNext (.ref e) >>= _) _ _ _
    refine wpAny_bind (en_item (s := { s with heap := h, toks := tk }) (S := S) hst hSl' hx hei hle hli fun t h' hst' ht hz hkp => ?_)
    dsimp only at ht hz hkp ⊢
    have hS' := hkp S _ hneE hneI hS
    have up : ∀ b o, b ≠ S → h'.get? b = some o → (h'.update S (Obj.mapSeq (·.push (Value.ref h.objs.size)))).get? b = some o := fun b o hb e => (Heap.get?_update_other _ _ (Ne.symm hb)).trans e
    show wpAny _ A.in1 (updateSeq S (·.push (Value.ref h.objs.size)) >>= _) _ _ _
    refine wpAny_bind ?_
    refine wpAny_updateSeq hS' rfl (wpAny_pure ⟨plainId_quiet PySem.F.plain_extend_loop _, ih (i + 1) _ _ _ (acc.push (Value.ref h.objs.size)) (as ++ [h.objs.size]) (by omega) hlt (hst'.keep up (Ne.symm hneE) (Ne.symm hneI) hSl)
      (fun b o h1 h2 h3 q => up b o h1 (hkp b o h2 h3 (hkeep b o h1 h2 h3 q))) (Heap.get?_update_self _ hS' rfl) (by rw [Array.toList_push, hacc, List.map_append]; rfl) (by rw [List.length_append, hal]; rfl) ⟨?_, ?_, ?_⟩ ?_⟩) (by rw [hsz]; omega) (by show (acc.push (Value.ref h.objs.size)).size ≤ sizeLine + 1; rw [Array.size_push, hsz]; omega)
    · refine List.pairwise_append.mpr ⟨hG.rise, List.pairwise_singleton _ _, fun a ha b hb => ?_⟩
      rw [List.mem_singleton.mp hb]
      exact hG.there ha
    · intro a ha
      rcases List.mem_append.mp ha with ha | ha
      · exact hG.above a ha
      · rw [List.mem_singleton.mp ha]; exact hIs
    · intro j b hj
      rcases Nat.lt_trichotomy j as.length with h1 | h1 | h1
      · rw [List.getElem?_append_left h1] at hj
        obtain ⟨key', k', x', e1, e2, e3⟩ := hG.pairs j b hj
        have hb := hG.above b (List.mem_of_getElem? hj)
        exact ⟨key', k', x', e1, e2, up b _ (Nat.ne_of_gt hb) (hkp b _ (Nat.ne_of_gt (Nat.lt_trans hSe hb)) (Nat.ne_of_gt (Nat.lt_trans hSi hb)) e3)⟩
      · subst h1
        have hb : h.objs.size = b := by simpa using hj
        subst hb
        have g := enK_get items.toList 0 i (x := items[i]) (by rw [Array.getElem?_toList]; exact hx)
        rw [Nat.zero_add] at g
        exact ⟨.int i t, Sum.inl (i : Int), items[i], by rw [hal]; exact g, (show keyIs (Sum.inl (i : Int)) (Value.int i t) = true from decide_eq_true rfl), up _ _ (Nat.ne_of_gt hSl') ht⟩
      · have hnone : (as ++ [h.objs.size])[j]? = none := List.getElem?_eq_none (by rw [List.length_append, List.length_singleton]; omega)
        rw [hnone] at hj; cases hj
    · have q : (h'.update S (Obj.mapSeq (·.push (Value.ref h.objs.size)))).get? h.objs.size = _ := up _ _ (Nat.ne_of_gt hSl') ht
      exact Nat.lt_trans hIs (Heap.lt_size q)
end
theorem en_nolen : typeLookup (.type "enumerate") "__len__" = pure none := am_miss_of_fast (by decide +kernel)
theorem en_nohint : typeLookup (.type "enumerate") "__length_hint__" = pure none := am_miss_of_fast (by decide +kernel)
section
variable {prog : Program} {w : World} {A : Around} {E : Value → Shared → Prop} {s : Shared} {e it l : Addr} {items : Array Value}
theorem en_hint (hT : s.TypeIs (.ref e) "enumerate") {Q : Bool → Shared → Prop} (h : Q true s) : wpAny (model prog w) A (Builtin.List.listLengthHint (.ref e)) Q E s := by
  unfold Builtin.List.listLengthHint
  refine wpAny_bind (wpAny_specialOf hT en_nolen ?_)
  refine wpAny_ite_split (fun hab => absurd hab (by decide)) (fun _ => ?_)
  refine wpAny_ite_split (fun hab => absurd hab (by decide)) (fun _ => ?_)
  refine wpAny_bind (wpAny_specialOf hT en_nohint ?_)
  exact wpAny_pure h
theorem en_extend {R : Result → Shared → Prop} (hh : A.handled = none) {old : Value} (he : IsEnum s.heap e it 0 old) (hit : s.heap.IsListIter it l 0) (hl : s.heap.IsList l items) (hei : e ≠ it) (hle : l ≠ e) (hli : l ≠ it) (S : Addr) (hSe : e < S) (hSi : it < S) (hSl : l ≠ S) (res : Value) (c₀ : Nat) (hS : s.heap.get? S = some { cls := .type "list", data := .seq #[] c₀ })
    (hR : ∀ h' tk acc c as, (∀ b o, b ≠ S → b ≠ e → b ≠ it → s.heap.get? b = some o → h'.get? b = some o) → h'.get? S = some { cls := .type "list", dict := none, data := .seq acc c, slots := #[] } → as.length = items.size → KdxG (mixKind prog w) (enK 0 items.toList) S h' as →
      acc.toList = as.map Value.ref → R (.ok (.ret res)) { s with heap := h', toks := tk }) (hn : items.size ≤ sizeLine) :
    wpAny (model prog w) A.in1 (Builtin.List.listExtendWith (.ref S) (.ref e) res)
      (fun fin s' => match fin with | .done f => R (.ok f) s' | .again c' => c'.quiet = true ∧ codeAny (model prog w) A c' R s') (fun e s' => R (.error e) s') s := by
  have key : ∀ (h : Heap) (c₁ tk : Nat), (∀ b o, b ≠ S → s.heap.get? b = some o → h.get? b = some o) → h.get? S = some { cls := .type "list", data := .seq #[] c₁ } →
      codeAny (model prog w) A (.builtin "list.extend.loop" ⟨[.ref S, .ref e, res], []⟩) R { s with heap := h, toks := tk } := by
    intro h c₁ tk hk hS₁
    exact en_loop (s := s) (h₁ := s.heap) hh hSe hSi hSl hei hle hli hn res (fun h' tk' acc c as hk' hS' hl' hG hacc => hR h' tk' acc c as hk' hS' hl' hG hacc)
      items.size 0 h tk c₁ #[] [] (Nat.sub_zero _) (Nat.zero_le _) (EnS.keep ⟨hit, hl, .inl ⟨old, he⟩⟩ hk (Nat.ne_of_lt hSe) (Nat.ne_of_lt hSi) hSl) (fun b o hb _ _ q => hk b o hb q) hS₁ rfl rfl
      ⟨List.Pairwise.nil, (fun _ ha => nomatch ha), (fun j a hj => by simp at hj)⟩ (Heap.lt_size hS₁)
  have hT : s.TypeIs (.ref e) "enumerate" := ⟨_, he, rfl⟩
  unfold Builtin.List.listExtendWith
  refine wpAny_bind (wpAny_typeOf (T := "enumerate") hT ?_)
  have h1 : Builtin.List.listSameRef (.ref S) (.ref e) = false := by simp [Builtin.List.listSameRef, Nat.ne_of_gt hSe]
  have h2 : (Value.type "enumerate" == Value.type "list") = false := by decide
  have h3 : (Value.type "enumerate" == Value.type "tuple") = false := by decide
  simp only [h1, h2, h3, Bool.or_false, Bool.false_eq_true, if_false]
  refine wpAny_bind (wpAny_pyIter_enum he ?_)
  refine wpAny_bind (wpAny_holding (en_hint hT ?_))
  refine wpAny_ite_split (fun _ => ?_) (fun _ => wpAny_pure ⟨plainId_quiet PySem.F.plain_extend_loop _, key _ c₀ _ (fun b o _ e => e) hS⟩)
  refine wpAny_bind (wpAny_rule ?_)
  refine wpAny_bind ?_
  show wpAny _ _ (updateSeq S (·.push .none) >>= fun _ => updateSeq S (·.pop)) _ _ _
  refine wpAny_bind (wpAny_updateSeq hS rfl ?_)
  have hS₂ := Heap.get?_update_self (Obj.mapSeq (·.push Value.none)) hS rfl
  refine wpAny_updateSeq (hz := by seq_fits) hS₂ rfl ?_
  have hS₃ := Heap.get?_update_self (Obj.mapSeq (·.pop)) hS₂ rfl
  refine wpAny_pure ⟨plainId_quiet PySem.F.plain_extend_loop _, key _ _ _ (fun b o hb e => ?_) hS₃⟩
  exact (Heap.get?_update_other _ _ (Ne.symm hb)).trans ((Heap.get?_update_other _ _ (Ne.symm hb)).trans e)
theorem en_init {R : Result → Shared → Prop} (hh : A.handled = none) {old : Value} (he : IsEnum s.heap e it 0 old) (hit : s.heap.IsListIter it l 0) (hl : s.heap.IsList l items) (hei : e ≠ it) (hle : l ≠ e) (hli : l ≠ it) (S : Addr) (hSe : e < S) (hSi : it < S) (hSl : l ≠ S) (hS : s.heap.get? S = some { cls := .type "list", data := .seq #[] })
    (hR : ∀ h' tk acc c as, (∀ b o, b ≠ S → b ≠ e → b ≠ it → s.heap.get? b = some o → h'.get? b = some o) → h'.get? S = some { cls := .type "list", dict := none, data := .seq acc c, slots := #[] } → as.length = items.size → KdxG (mixKind prog w) (enK 0 items.toList) S h' as →
      acc.toList = as.map Value.ref → R (.ok (.ret .none)) { s with heap := h', toks := tk }) (hn : items.size ≤ sizeLine) :
    wpAny (model prog w) A.in1 (Builtin.«list.__init__» ⟨[.ref S, .ref e], []⟩)
      (fun fin s' => match fin with | .done f => R (.ok f) s' | .again c' => c'.quiet = true ∧ codeAny (model prog w) A c' R s') (fun e s' => R (.error e) s') s := by
  show wpAny _ _ (do let old ← Builtin.List.listItems (.ref S); Builtin.List.listUpdate (.ref S) (fun _ => #[]); letGo old.toList.reverse; Builtin.List.listExtendWith (.ref S) (.ref e) .none) _ _ s
  refine wpAny_bind ?_
  unfold Builtin.List.listItems
  refine wpAny_bind (wpAny_seqItems hS rfl (wpAny_pure ?_))
  show wpAny _ _ (updateSeq S (fun _ => #[]) >>= fun _ => letGo (#[] : Array Value).toList.reverse >>= fun _ => Builtin.List.listExtendWith (.ref S) (.ref e) .none) _ _ s
  refine wpAny_bind (wpAny_updateSeq hS rfl ?_)
  have hS₂ := Heap.get?_update_self (Obj.mapSeq (fun _ => (#[] : Array Value))) hS rfl
  have oth : ∀ b o, b ≠ S → s.heap.get? b = some o → (s.heap.update S (Obj.mapSeq (fun _ => (#[] : Array Value)))).get? b = some o :=
    fun b o hb e => (Heap.get?_update_other _ _ (Ne.symm hb)).trans e
  refine wpAny_bind (wpAny_letGo ?_)
  refine en_extend hh (oth _ _ (Nat.ne_of_lt hSe) he) (hit.at fun o q => oth _ o (Nat.ne_of_lt hSi) q) (hl.at fun o q => oth _ o hSl q) hei hle hli S hSe hSi hSl .none _ hS₂ (fun h' tk acc c as hk hS' hl' hG hacc => ?_) hn
  exact hR h' tk acc c as (fun b o h1 h2 h3 q => hk b o h1 h2 h3 (oth b o h1 q)) hS' hl' hG hacc
theorem en_call {Q : Value → Shared → Prop} (hh : A.handled = none) {old : Value} (he : IsEnum s.heap e it 0 old) (hit : s.heap.IsListIter it l 0) (hl : s.heap.IsList l items) (hei : e ≠ it) (hle : l ≠ e) (hli : l ≠ it) (hn : items.size ≤ sizeLine)
    (hQ : ∀ h' tk acc c as, (∀ b o, b ≠ e → b ≠ it → s.heap.get? b = some o → h'.get? b = some o) → h'.get? s.heap.objs.size = some { cls := .type "list", dict := none, data := .seq acc c, slots := #[] } → as.length = items.size → KdxG (mixKind prog w) (enK 0 items.toList) s.heap.objs.size h' as →
      acc.toList = as.map Value.ref → Q (.ref s.heap.objs.size) { s with heap := h', toks := tk }) :
    wpAny (model prog w) A (call (.type "list") [.ref e]) Q E s := by
  refine callType_codes (Q₁ := fun obj s₁ => obj = .ref s.heap.objs.size ∧ s₁ = { s with heap := s.heap.push { cls := .type "list", data := .seq #[] } }) PySem.F.called_list (PySem.F.typeCall_list_1 _) PySem.F.entry_list_init
    (code_list_new _ ⟨rfl, rfl⟩) fun obj s₁ h₁ => ?_
  obtain ⟨rfl, rfl⟩ := h₁
  have hS : (s.heap.push { cls := .type "list", data := .seq #[] }).get? s.heap.objs.size = some { cls := .type "list", data := .seq #[] } := Heap.get?_push_size _ rfl
  have l1 : e < s.heap.objs.size := Heap.lt_size he
  have l2 : it < s.heap.objs.size := let ⟨_, q, _⟩ := hit; Heap.lt_size q
  have l3 : l < s.heap.objs.size := let ⟨_, q, _⟩ := hl; Heap.lt_size q
  refine ⟨⟨_, hS, rfl⟩, PySem.F.args_list_init_2 _ _, en_init (A := A.in1) hh (Heap.get?_push_of_some _ he) (hit.at fun o q => Heap.get?_push_of_some _ q) (hl.at fun o q => Heap.get?_push_of_some _ q) hei hle hli _ l1 l2 (Nat.ne_of_lt l3) hS (fun h' tk acc c as hk hS' hl' hG hacc => ?_) hn⟩
  exact ⟨rfl, hQ h' tk acc c as (fun b o h1 h2 q => hk b o (Nat.ne_of_lt (Heap.lt_size q)) h1 h2 (Heap.get?_push_of_some _ q)) hS' hl' hG hacc⟩
end
/-- a list at S of new pairs, laid and tracked -/
theorem pairs_laid {X : Cx} {pins : List (Addr × Obj)} {σ : L2.St} {H : Hp} {s : Shared} {h' : Heap} {tk : Nat} {S lo : Addr} {kvs : List (Key × V)} {vs : List (Key × Value)} {acc : Array Value} {c : Nat} {as os : List Addr} (I : Inv X pins σ H s) (hS0 : s.heap.objs.size ≤ S) (hlo : s.heap.objs.size ≤ lo) (nS : S ∉ as) (hz : os.length ≤ sizeLine) (kv : KV kvs vs)
    (hk : ∀ b o, s.heap.get? b = some o → h'.get? b = some o) (hS : h'.get? S = some { cls := .type "list", dict := none, data := .seq acc c, slots := #[] }) (hl : as.length = vs.length) (hG : KdxG (mixKind X.prog X.w) vs lo h' as) (hacc : acc.toList = os.map Value.ref) :
    ∃ H' : Hp, (∀ b o, H b = some o → H' b = some o) ∧ H S = none ∧ (∀ t ∈ as, H t = none) ∧ H' S = some (.lst (os.map V.ref)) ∧ Paired (fun (t : Addr) (q : Key × V) => H' t = some (.tup [kV q.1, q.2])) as kvs ∧ Inv X pins σ H' { s with heap := h', toks := tk } := by
  have lk : kvs.length = vs.length := Paired.length kv
  have nd : as.Nodup := List.Pairwise.imp (fun {a b} (h : a < b) => Nat.ne_of_lt h) hG.rise
  have big : ∀ t ∈ as, s.heap.objs.size ≤ t := fun t ht => Nat.le_trans hlo (Nat.le_of_lt (hG.above t ht))
  have fr : ∀ t ∈ as, H t = none := fun t ht => I.hok.fresh (big t ht)
  have frS : H S = none := I.hok.fresh hS0
  have at2 := LiI.putT_at as kvs (upd H S (.lst (os.map V.ref))) (by omega) nd
  generalize eG : LiI.putT (upd H S (.lst (os.map V.ref))) as kvs = G at at2
  have off : ∀ b, b ∉ as → b ≠ S → G b = H b := fun b h1 h2 => by rw [← eG, LiI.putT_off as kvs _ h1, upd_ne h2]
  have low : ∀ b o, s.heap.get? b = some o → b ∉ as ∧ b ≠ S := fun b o e => ⟨fun z => absurd (Heap.lt_size e) (Nat.not_lt.mpr (big b z)), fun z => absurd (Heap.lt_size e) (Nat.not_lt.mpr (z ▸ hS0))⟩
  have kp : ∀ b u, H b = some u → G b = some u := fun b u e => by
    rw [off b (fun z => by rw [fr b z] at e; cases e) (fun z => by rw [z, frS] at e; cases e)]
    exact e
  have eS : G S = some (.lst (os.map V.ref)) := by rw [← eG, LiI.putT_off as kvs _ nS, upd_same]
  refine ⟨G, kp, frS, fr, eS, at2, ?_⟩
  refine I.call' (ch := []) rfl ⟨fun b o q _ _ _ => hk b o q, fun b o q _ _ _ => ⟨o.slots, hk b o q⟩, fun b o q n _ => ?_, fun b o q _ => ⟨o, hk b o q⟩, fun b xs q => kp b _ q, fun b o u q => kp b _ q, fun b ps q => ⟨#[], by rw [kp b _ q]; simp⟩⟩ (fun b u q => ?_) I.bare fun b z => by simp at z
  · obtain ⟨z1, z2⟩ := low b o q
    rw [off b z1 z2]
    exact n
  · by_cases hb : b ∈ as
    · obtain ⟨j, pk, e1, e2, e3⟩ := LiI.paired_ix at2 hb
      rw [e3] at q
      cases q
      obtain ⟨key, k, x, f1, f2, f3⟩ := hG.pairs j b e1
      obtain ⟨qv, g1, g2, g3⟩ := LiI.paired_get kv e2
      rw [f1] at g1
      cases g1
      have rk : RelV (kV pk.1) key := by
        rw [g2]
        exact relV_key (show keyIs k key = true from f2)
      exact ⟨by show 2 ≤ sizeLine; decide, [key, x], .cons rk (.cons g3 .nil), ⟨_, f3, rfl, _, rfl⟩⟩
    · by_cases hb2 : b = S
      · rw [hb2] at q ⊢
        rw [eS] at q
        cases q
        refine ⟨by rw [List.length_map]; exact hz, acc.toList, c, by rw [hacc]; exact LiI.vals_refs os, ?_⟩
        rw [Array.toArray_toList]
        exact hS
      · rw [off b hb hb2] at q
        exact (I.hok b u q).stay (fun d v _ y => hk d v y) (fun d y => kp d _ y) fun d xs y => kp d _ y
def tListEnum (K : Frag) (te : TE) : TE := fun σ H Q => te σ H fun x H1 => ∃ l xs, x = .ref l ∧ SqL K H1 l xs ∧
  ∀ (H' : Hp) (p : Addr) (ts : List Addr), (∀ b o, H1 b = some o → H' b = some o) → H1 p = none → (∀ t ∈ ts, H1 t = none) → p ∉ ts → H' p = some (.lst (ts.map V.ref)) → Paired (fun (t : Addr) (q : Key × V) => H' t = some (.tup [kV q.1, q.2])) ts (enK 0 xs) → Q (.ref p) H'
section
variable {X : Cx} {e : Expr} {te : TE} {p p2 cpos pos : Pos}
/-- list(enumerate(e)) -/
theorem pe_listEnum (hc : X.calm = true) (he : PE X e te) (hg : Gl X "list") (hm : X.mg "list" = none) (hg2 : Gl X "enumerate") (hm2 : X.mg "enumerate" = none)
    (hs : starEach [.Call (.Name "enumerate" p2) [e] [] cpos] X.env = (false, eval (.Call (.Name "enumerate" p2) [e] [] cpos) X.env) :: starEach [] X.env := by rfl)
    (hs2 : starEach [e] X.env = (false, eval e X.env) :: starEach [] X.env := by rfl) :
    PE X (.Call (.Name "list" p) [.Call (.Name "enumerate" p2) [e] [] cpos] [] pos) (tListEnum X.K te) := by
  refine ⟨fun pins s σ H Q I hq => ?_⟩
  refine wpAny_Call_Name_kw (ld_blt I hg hm PyProof.Rows.boot_list ?_)
  refine PyProof.Rows.callWith_type1 ?_ hs rfl
  rw [hs]
  show wpAny _ _ (spliced ((false, eval (.Call (.Name "enumerate" p2) [e] [] cpos) X.env) :: backTo pos (starEach [] X.env))) _ _ s
  refine Calls.spliced_cons ?_
  refine wpAny_Call_Name_kw (ld_blt I hg2 hm2 PyProof.Rows.boot_enumerate ?_)
  refine PyProof.Rows.callWith_type1 ?_ hs2 rfl
  rw [hs2]
  show wpAny _ _ (spliced ((false, eval e X.env) :: backTo cpos (starEach [] X.env))) _ _ s
  refine Calls.spliced_cons ?_
  refine thn (he.run pins s σ H _ I hq) fun u s1 ⟨x, H1, I1, rx, l, xs, ex, hl, q⟩ => ?_
  subst ex
  obtain rfl : u = Value.ref l := rx
  refine Calls.spliced_nil ?_
  obtain ⟨us, ru, pu, hz⟩ := I1.list hl
  refine call_enumerate_list pu.isList fun h1 hE hI hsz hk1 => ?_
  refine Calls.spliced_nil ?_
  have ll : l < s1.heap.objs.size := pu.lt
  have I2 : Inv X pins σ H1 { s1 with heap := h1 } := I1.kept (t' := s1.toks) hk1
  have hlen := ru.length
  refine en_call (I1.ok.hd hc) hE hI (pu.isList.at fun o q => hk1 _ o q) (Nat.succ_ne_self _) (Nat.ne_of_lt (Nat.lt_succ_of_lt ll)) (Nat.ne_of_lt ll) (by rw [List.size_toArray]; omega) fun h' tk acc c as hk hS hl' hG hacc => ?_
  have hk2 : ∀ b o, s1.heap.get? b = some o → h'.get? b = some o := fun b o e => by
    have hb := Heap.lt_size e
    exact hk b o (Nat.ne_of_lt (Nat.lt_succ_of_lt hb)) (Nat.ne_of_lt hb) (hk1 b o e)
  rw [List.toList_toArray] at hG
  have hle : s1.heap.objs.size ≤ h1.objs.size := by rw [hsz]; exact Nat.le_add_right _ _
  have k4 : h1.objs.size ∉ as := fun z => Nat.lt_irrefl _ (hG.above _ z)
  obtain ⟨H', k1, k2, k3, k5, k6, J⟩ := pairs_laid (tk := tk) I1 hle hle k4 (by rw [hl', List.size_toArray, ← hlen]; exact hz) (enK_rel xs us 0 ru) hk2 hS (by rw [hl', enK_len, List.size_toArray]) hG hacc
  exact ⟨.ref _, H', J, rfl, q H' _ as k1 k2 k3 k4 k5 k6⟩
end
end WB
/-! sorted(d.items(), key=lambda p: p[0]): a new list of new pairs, by rising keys. -/
namespace WB
open PySem PySem.Calls PyProof.Rows PyProof.V PySem.Spec L2 He PySem.W LamX
def kD : Key → PyData
  | .inl i => .int i
  | .inr x => .str x
theorem kD_reads {h : Heap} {k : Key} {u : Value} (e : keyIs k u = true) : Reads h u (kD k) [] := by
  rcases keyIs_shape e with ⟨i, t, rfl, rfl⟩ | ⟨x, t, rfl, rfl⟩
  · exact .int i t
  · exact .str x t
abbrev kLe : Key × V → Key × V → Bool := dataLe false fun p => kD p.1
theorem each_get {α β : Type} {R : α → β → Prop} : ∀ {as : List α} {bs : List β}, as.length = bs.length → (∀ (j : Nat) a b, as[j]? = some a → bs[j]? = some b → R a b) → EachIs R as bs
  | [], [], _, _ => .nil
  | [], _ :: _, h, _ => by cases h
  | _ :: _, [], h, _ => by cases h
  | a :: as, b :: bs, h, r => .cons (r 0 a b rfl rfl) (each_get (Nat.succ.inj h) fun j x y e1 e2 => r (j + 1) x y e1 e2)
theorem each_paired {α β γ : Type} {R : α → β → Prop} {f : γ → α} {F : γ → β → Prop} : ∀ {as : List α} {bs : List β}, EachIs R as bs → (∀ a b, R a b → ∃ c, a = f c ∧ F c b) → ∃ cs : List γ, as = cs.map f ∧ Paired F cs bs
  | [], [], _, _ => ⟨[], rfl, .nil⟩
  | [], _ :: _, h, _ => by cases h
  | _ :: _, [], h, _ => by cases h
  | a :: as, b :: bs, h, r => by
    cases h with
    | cons h1 t =>
      obtain ⟨c, e, hc⟩ := r a b h1
      obtain ⟨cs, e2, hp⟩ := each_paired t r
      exact ⟨c :: cs, by rw [e, e2]; rfl, .cons hc hp⟩
section
variable {prog : Program} {w : World} {A : Around} {E : Value → Shared → Prop} {s : Shared}
/-- all that was there stays -/
def Grows (s s2 : Shared) : Prop := ∃ h' tk, s2 = { s with heap := h', toks := tk } ∧ ∀ b o, s.heap.get? b = some o → h'.get? b = some o
/-- the call of lambda x: x[0] -/
theorem lam_first {f c' t : Addr} {name qual x : Str} {params : Arguments} {p1 p2 p3 : Pos} {j : Nat} {scope : Scope} {cl : List (Str × Addr)} {pm ctv a b : Value}
    (hroom : A.depth < recursionLimit) (hnl : s.heap.NoLimit) (hf : s.heap.get? f = some (kla_obj name qual params (.Subscript (.Name x p1) (.Constant (.int 0) j p2) p3) scope cl pm c' ctv)) (hcd : s.heap.CodeRec (.ref c') qual)
    (hbind : ∀ v, bindArgs (kla_fn name qual params (.Subscript (.Name x p1) (.Constant (.int 0) j p2) p3) scope cl pm (.ref c') ctv) ⟨[v], []⟩ = pure [(x, v)])
    (hk : scope.kind = .function) (hco : scope.isCoroutine = false) (hgen : scope.isGenerator = false) (hl : scope.names.lookup x = some .local) (hcell : ∀ y ∈ scope.names, y.2 ≠ .cell) (hd : (x == ("__debug__" : Str)) = false)
    (ht : s.heap.get? t = some { cls := .type "tuple", data := .seq #[a, b] }) : wpAny (model prog w) A (call (.ref f) [.ref t]) (fun v s2 => v = a ∧ Grows s s2) E s := by
  refine wpAny_call ?_
  refine kla_callFunE hroom hf rfl hco hgen rfl hcd ?_
  rw [hbind]
  refine wpAny_pure (wpAny_newFunctionEnv hcell (fun y hy => by rw [List.mem_singleton.mp hy]; exact hl) (fun h1 hns hsb => ⟨hnl.fresh _ hsb, ?_⟩) hk)
  show codeAny _ _ (.expr _ (envX qual scope s.heap.objs.size f (.ref c') cl)) _ _
  have kp : ∀ b o, s.heap.get? b = some o → h1.get? b = some o := fun b o e => hsb.extBut b o (Nat.ne_of_lt (Heap.lt_size e)) (Heap.get?_push_of_some _ e)
  refine kla_codeExpr (wpAny_Subscript_Constant_late ?_)
  have lk : (fun y : Str => ([(x, Value.ref t)] : List (Str × Value)).reverse.lookup y) x = some (.ref t) := by
    show ([(x, Value.ref t)] : List (Str × Value)).lookup x = _
    rw [List.lookup_cons_self]
  refine wpAny_Name (wpAny_loadName_local hk hl hns lk ?_) hd
  refine wpAny_Constant_int ?_
  have ht1 : h1.get? t = some { cls := .type "tuple", data := .seq #[a, b] } := kp _ _ ht
  refine ⟨"tuple", _, slot_tuple_getitem.lookup, ⟨_, ht1, rfl⟩, ?_⟩
  exact PyProof.Rows.getItem_tuple (j := 0) ⟨_, ht1, rfl, _, rfl⟩ (by decide) (by decide) rfl rfl ⟨rfl, h1, _, rfl, kp⟩
/-- the items of a dict gathered; the heap has grown -/
theorem items_got {v d : Addr} {vs : List (Key × Value)} {ep : Nat} {R : List Value → Shared → Prop} (hh : A.handled = none) (hv : s.heap.IsItemsView v d) (hm : s.heap.DictAt (mixKind prog w) d vs ep) (hn : vs.length ≤ sizeLine)
    (h : ∀ h' tk as, (∀ b o, s.heap.get? b = some o → h'.get? b = some o) → s.heap.objs.size < h'.objs.size → as.length = vs.length → KdxG (mixKind prog w) vs s.heap.objs.size h' as → R (as.map Value.ref) { s with heap := h', toks := tk }) : wpAny (model prog w) A (collect (.ref v)) R E s := by
  have hr : v < s.heap.objs.size := by
    obtain ⟨_, ho, _⟩ := hv
    exact Heap.lt_size ho
  have hd : d < s.heap.objs.size := hm.lt_size
  generalize eN : s.heap.objs.size = N at hr hd h
  unfold collect
  refine wpAny_bind (wpAny_runValue (codeAny_builtin entry_proto_collect' ?_))
  rw [Around.under_plainId PySem.F.plain_proto_collect _]
  show wpAny _ A.in1 (newList [] >>= fun l => again (.builtin "list.__iadd__" ⟨[l, .ref v], []⟩)) _ _ s
  refine wpAny_bind (wpAny_newObj_type ?_)
  refine wpAny_pure ⟨plainId_quiet PySem.F.plain_list_iadd _, codeAny_builtin entry_list_iadd' ?_⟩
  rw [Around.under_plainId PySem.F.plain_list_iadd _]
  have hN : (s.heap.push { cls := .type "list", data := .seq ([] : List Value).toArray }).get? N = some { cls := .type "list", data := .seq #[] } := by
    rw [← eN]; exact Heap.get?_push_size _ rfl
  show wpAny _ A.in1 (Builtin.List.listExtendWith (.ref s.heap.objs.size) (.ref v) (.ref s.heap.objs.size)) _ _ _
  rw [eN]
  have ex := kdx_extend (A := A) (s := { s with heap := s.heap.push { cls := .type "list", data := .seq ([] : List Value).toArray } }) (knd := mixKind prog w) (kvs := vs) (ep := ep) (r := v) (d := d)
    (R := fun (q : Result) (s' : Shared) => ∃ (h' : Heap) (tk : Nat) (ac : Array Value) (c : Nat) (as : List Addr), q = .ok (.ret (.ref N)) ∧ s' = { s with heap := h', toks := tk } ∧ (∀ b o, s.heap.get? b = some o → h'.get? b = some o) ∧
      h'.get? N = some { cls := .type "list", dict := none, data := .seq ac c, slots := #[] } ∧ as.length = vs.length ∧ KdxG (mixKind prog w) vs N h' as ∧ ac.toList = as.map Value.ref)
    hh (let ⟨o, ho, x⟩ := hv; ⟨o, Heap.get?_push_of_some _ ho, x⟩) (hm.push _) N (Nat.ne_of_gt hr) (Nat.ne_of_lt hd) (.ref N) 0 hN
    (fun h' tk ac c as hk hS hl hG ha => ⟨h', tk, ac, c, as, rfl, rfl, fun b o e => hk b o (by rw [← eN]; exact Nat.ne_of_lt (Heap.lt_size e)) (Heap.get?_push_of_some _ e), hS, hl, hG.low (by rw [← eN]; show s.heap.objs.size ≤ (s.heap.push _).objs.size; rw [Heap.size_push]; exact Nat.le_succ _), ha⟩) hn
  have fin : ∀ (q : Result) (s2 : Shared), (∃ (h' : Heap) (tk : Nat) (ac : Array Value) (c : Nat) (as : List Addr), q = .ok (.ret (.ref N)) ∧ s2 = { s with heap := h', toks := tk } ∧ (∀ b o, s.heap.get? b = some o → h'.get? b = some o) ∧
      h'.get? N = some { cls := .type "list", dict := none, data := .seq ac c, slots := #[] } ∧ as.length = vs.length ∧ KdxG (mixKind prog w) vs N h' as ∧ ac.toList = as.map Value.ref) →
      q = .ok (.ret (.ref N)) ∧ wpAny (model prog w) A (do let o ← load N; match o.data with | .seq vs _ => pure vs.toList | _ => unsupported "internal:collect") R E s2 := by
    rintro q s2 ⟨h', tk, ac, c, as, rfl, rfl, hk, hS, hl, hG, ha⟩
    refine ⟨rfl, wpAny_bind (wpAny_load hS (wpAny_pure ?_))⟩
    rw [ha]
    exact h h' tk as hk (Heap.lt_size hS) hl hG
  refine wpAny_mono ex (fun fn s' x => ?_) fun e s' x => ?_
  · cases fn with
    | done f =>
      obtain ⟨e, z⟩ := fin _ _ x
      cases e
      exact z
    | again c1 =>
      refine ⟨x.1, codeAny_mono x.2 fun q s2 y => ?_⟩
      obtain ⟨e, z⟩ := fin _ _ y
      cases e
      exact z
  · obtain ⟨_, _, _, _, _, e', _⟩ := x
    cases e'
/-- sorted(v, key=f), v a dict's items, f what tells a pair's first -/
theorem sorted_items {v d f : Addr} {kvs : List (Key × V)} {vs : List (Key × Value)} {ep : Nat} {Q : Value → Shared → Prop} (hh : A.handled = none) (hu : A.units + 16 < cLine) (hv : s.heap.IsItemsView v d) (hm : s.heap.DictAt (mixKind prog w) d vs ep) (hn : vs.length ≤ sizeLine) (kv : KV kvs vs) (hal : AllAlike (kvs.map fun p => kD p.1))
    (turn : ∀ (t : Addr) (a b : Value) (h : Heap) (tk : Nat), (∀ b o, s.heap.get? b = some o → h.get? b = some o) → h.get? t = some { cls := .type "tuple", data := .seq #[a, b] } →
      wpAny (model prog w) A.in1.in1 (call (.ref f) [.ref t]) (fun v s2 => v = a ∧ Grows { s with heap := h, toks := tk } s2) (fun _ _ => False) { s with heap := h, toks := tk })
    (hQ : ∀ (h' : Heap) (tk : Nat) (S c : Nat) (as : List Addr) (out : List Value), s.heap.objs.size ≤ S → (∀ b o, s.heap.get? b = some o → h'.get? b = some o) → as.length = vs.length → KdxG (mixKind prog w) vs s.heap.objs.size h' as → S ∉ as → h'.get? S = some (seqObj "list" (List.toArray out) c) →
      EachIs (fun (v : Value) (x : Key × V) => ∃ (j : Nat) (a : Addr), v = .ref a ∧ as[j]? = some a ∧ kvs[j]? = some x) out (kvs.mergeSort kLe) → Q (.ref S) { s with heap := h', toks := tk }) :
    wpAny (model prog w) A (call (.builtin "sorted") [.ref v] [(Str.ofString "key", .ref f)]) Q E s := by
  refine call_function_entry_kw kind_sorted plain_sorted entry_sorted (ksk_s1 _ _) ?_
  unfold Builtin.«sorted»
  refine wpAny_bind (m := checkCount "sorted" 1 1 _) (wpAny_pure ?_)
  refine wpAny_bind (items_got (A := A.in1) hh hv hm hn fun h1 tk as hk sz1 hl hG => ?_)
  have hz : (as.map Value.ref).length ≤ sizeLine := by rw [List.length_map, hl]; exact hn
  refine wpAny_bind (wpAny_newList ?_ hz)
  have hS : (h1.push (seqObj "list" (as.map Value.ref).toArray 0)).get? h1.objs.size = some (seqObj "list" (as.map Value.ref).toArray 0) := Heap.get?_push_size _ rfl
  show wpAny _ _ _ _ _ { s with heap := h1.push (seqObj "list" (as.map Value.ref).toArray 0), toks := tk }
  have lk : kvs.length = vs.length := Paired.length kv
  have eR : EachIs (fun (v : Value) (x : Key × V) => ∃ (j : Nat) (a : Addr), v = .ref a ∧ as[j]? = some a ∧ kvs[j]? = some x) (as.map Value.ref) kvs := by
    refine each_get (by rw [List.length_map, hl, lk]) fun j v x hv2 hx2 => ?_
    rw [List.getElem?_map] at hv2
    obtain ⟨a, ja, rfl⟩ := Option.map_eq_some_iff.mp hv2
    exact ⟨j, a, rfl, ja, hx2⟩
  have nS : h1.objs.size ∉ as := fun z => Nat.lt_irrefl _ (hG.there z)
  refine wpAny_bind (wpAny_holding ?_)
  refine list_sort_key_data (fun p : Key × V => kD p.1) hS eR hal (Sortable.others fun b => by rcases b with ⟨k | k, v⟩ <;> exact ⟨(by intro z; cases z), (by intro xs z; cases z)⟩) (by rw [lk]; exact hn) (fun x _ => ?_) (ksk_l1 _ _) (ksk_t1 _ _) ?_ ?_
  · have hd : (kD x.1).depth = 0 := by rcases x with ⟨k | k, v⟩ <;> rfl
    rw [hd]
    show A.units + 1 + 1 + 0 < cLine
    omega
  · rintro v x ⟨j, a, rfl, ja, jx⟩ hx h2 tk2 kp
    obtain ⟨key, k, u, g1, g2, g3⟩ := hG.pairs j a ja
    obtain ⟨q, f1, f2, f3⟩ := LiI.paired_get kv jx
    rw [g1] at f1; cases f1
    have na : a ≠ h1.objs.size := fun z => nS (z ▸ List.mem_of_getElem? ja)
    refine wpAny_mono (turn a key u h2 tk2 (fun b o e => kp b o (Nat.ne_of_lt (Heap.lt_size (hk b o e))) (Heap.get?_push_of_some _ (hk b o e))) (kp a _ na (Heap.get?_push_of_some _ g3))) (fun v2 s2 hq => ?_) fun _ _ e => e
    obtain ⟨rfl, h3, tk3, rfl, k3⟩ := hq
    refine ⟨h3, tk3, rfl, k3, ?_⟩
    rw [f2]
    exact kD_reads g2
  · intro out c h3 tk3 kp3 hS3 hl3 he3
    refine wpAny_pure ⟨_, rfl, hQ h3 tk3 _ c as out (Nat.le_of_lt sz1) (fun b o e => kp3 b o (Nat.ne_of_lt (Heap.lt_size (hk b o e))) (Heap.get?_push_of_some _ (hk b o e))) hl ⟨hG.rise, hG.above, fun j a ja => ?_⟩ nS hS3 he3⟩
    obtain ⟨key, k, u, g1, g2, g3⟩ := hG.pairs j a ja
    exact ⟨key, k, u, g1, g2, kp3 a _ (fun z => nS (z ▸ List.mem_of_getElem? ja)) (Heap.get?_push_of_some _ g3)⟩
end
section
variable {X : Cx} {pins : List (Addr × Obj)} {σ : L2.St} {H : Hp} {s : Shared}
/-- a lambda is made by a def with one table: nothing else changes -/
theorem lam_one {c P : Addr} {q : Str} {params : Arguments} {body : Expr} {scope : Scope} {pos : Pos} {E Q : Value → Shared → Prop} (I : Inv X pins σ H s) (TB : TabB X.base X.mg c P) (hcode : X.env.code = .ref c) (hq : X.env.qual ++ "<lambda>" = q)
    (hT : TabS H P q) (hdef : defaultsOf params X.env = ([], [])) (hfree : ∀ y ∈ scope.names, y.2 = .free → ∃ c, X.env.cells.lookup y.1 = some c)
    (h : ∀ (f c' : Addr) (pm ctv : Value) (H1 : Hp) (s' : Shared), Inv X pins σ H1 s' → (∀ a o, H a = some o → a ≠ P → H1 a = some o) → TabS H1 P q →
      s'.heap.get? f = some (kla_obj "<lambda>" q params body scope (cloFrom X.env.cells scope.names []) pm c' ctv) → H1 c' = some (CodeO c' q) → Q (.ref f) s') :
    wpAny (model X.prog X.w) X.A (eval (.Lambda params body scope pos) X.env) Q E s := by
  subst hq
  obtain ⟨ps, hP, ht, ha⟩ := hT
  refine kla_eval hdef ?_
  have bP : s.heap.BuiltinsAt X.mg P := TB.bm.keeps I.bk
  have hP2 : s.heap.get? P = some { cls := .none, data := .fields ps } := I.hok P _ hP
  cases hc : codeAmong pos ps.toList with
  | none =>
    refine kla_makeFunction (mg := X.mg) (c := c) (P := P) (ps := ps) (closure_ok hfree) I.ok.glob (I.mod.glob.keeps I.bk) hcode (TB.code.keeps I.bk) hP2 ht hc TB.gP bP fun c' ctv h2 tk hx hge hlt hrec htb => ?_
    obtain ⟨c2, oc, vs, t, e2, hoc, hd, hv⟩ := hrec
    cases e2
    have nC : H c' = none := I.hok.fresh hge
    have I1 := inv_table (t' := tk) (more := #[rawInt pos.line, rawInt pos.col, .ref c']) (h' := h2.push (kla_obj "<lambda>" (X.env.qual ++ "<lambda>") params body scope (cloFrom X.env.cells scope.names []) ((X.mg "__name__").getD .none) c' ctv)) I hP
      (fun b o hb e => Heap.get?_push_of_some _ (hx b o hb e)) (Heap.get?_push_of_some _ htb) hge ⟨oc, vs, t, Heap.get?_push_of_some _ hoc, hd, hv⟩
    have st : ∀ a o, H a = some o → a ≠ P → (upd (upd H P (.tbl (ps ++ #[rawInt pos.line, rawInt pos.col, .ref c']))) c' (CodeO c' (X.env.qual ++ "<lambda>"))) a = some o := fun a o e n => by
      rw [upd_ne (ne_of_none e nC), upd_ne n]
      exact e
    have eL : (ps ++ #[rawInt pos.line, rawInt pos.col, .ref c']).toList = ps.toList ++ [rawInt pos.line, rawInt pos.col, .ref c'] := by simp
    refine h h2.objs.size c' ((X.mg "__name__").getD .none) ctv _ _ I1 st ⟨_, by rw [upd_ne (ne_of_none hP nC), upd_same], by rw [eL]; exact PySem.TriplesOk_snoc _ _ _ _ ht, fun p' cv hcv => ?_⟩ (Heap.get?_push_size _ rfl) upd_same
    rw [eL] at hcv
    rcases among_app _ ht hcv with z | z
    · obtain ⟨c0, e1, e2⟩ := ha p' cv z
      exact ⟨c0, e1, st _ _ e2 fun z => by rw [z, hP] at e2; exact codeO_ne ps (Option.some.inj e2).symm⟩
    · exact ⟨c', z, upd_same⟩
  | some cv =>
    obtain ⟨c', e, hco⟩ := ha pos cv hc
    subst e
    refine kla_makeFunctionHit (mg := X.mg) (c := c) (P := P) (ps := ps) (closure_ok hfree) I.ok.glob (I.mod.glob.keeps I.bk) hcode (TB.code.keeps I.bk) hP2 ht hc bP fun ctv h2 tk hx hsz => ?_
    have I1 : Inv X pins σ H { s with heap := h2.push (kla_obj "<lambda>" (X.env.qual ++ "<lambda>") params body scope (cloFrom X.env.cells scope.names []) ((X.mg "__name__").getD .none) c' ctv), toks := tk } := I.kept fun b o e => Heap.get?_push_of_some _ (hx b o e)
    exact h h2.objs.size c' ((X.mg "__name__").getD .none) ctv H _ I1 (fun _ _ e _ => e) ⟨ps, hP, ht, ha⟩ (Heap.get?_push_size _ rfl) hco
end
def tSortIt (P : Addr) (q : Str) (te : TE) : TE := fun σ H Q => te σ H fun x H1 => ∃ (d : Addr) (kvs : List (Key × V)), x = .ref d ∧ H1 d = some (.dK kvs) ∧ AllAlike (kvs.map fun p => kD p.1) ∧ TabS H1 P q ∧
  ∀ (H' : Hp) (p : Addr) (ts : List Addr), (∀ a o, H1 a = some o → a ≠ P → H' a = some o) → TabS H' P q → H1 p = none → (∀ t ∈ ts, H1 t = none) → H' p = some (.lst (ts.map V.ref)) → Paired (fun (t : Addr) (y : Key × V) => H' t = some (.tup [kV y.1, y.2])) ts (kvs.mergeSort kLe) → Q (.ref p) H'
section
variable {X : Cx} {k c P : Addr} {e : Expr} {te : TE} {p apos cpos pos lpos kpos p1 p2 p3 : Pos} {x q : Str} {j : Nat} {params : Arguments} {scope : Scope}
/-- sorted(e.items(), key=lambda x: x[0]) -/
theorem pe_sortItems (hr : Room 2 X.A) (hc : X.calm = true) (he : PE X e te) (hg : Gl X "sorted") (hm : X.mg "sorted" = none) (hTB : X.K.In X.base → TabB X.base X.mg c P) (hcode : X.env.code = .ref c) (hq : X.env.qual ++ "<lambda>" = q)
    (hdef : defaultsOf params X.env = ([], []) := by rfl) (hS : (scope.kind = .function ∧ scope.isCoroutine = false ∧ scope.isGenerator = false ∧ scope.names.lookup x = some .local ∧ (∀ y ∈ scope.names, y.2 = .local) ∧ (x == ("__debug__" : Str)) = false) := by decide)
    (hbind : ∀ (cl : List (Str × Addr)) (pm cdv ctv v : Value), bindArgs (kla_fn "<lambda>" q params (.Subscript (.Name x p1) (.Constant (.int 0) j p2) p3) scope cl pm cdv ctv) ⟨[v], []⟩ = pure [(x, v)] := by intros; rfl)
    (hbase : attributeBase e "items" X.env (eval e X.env) = eval e X.env := by rfl) (hline : (apos.endLine == cpos.line) = true := by rfl) :
    PE X (.Call (.Name "sorted" p) [.Call (.Attribute e "items" apos) [] [] cpos] [⟨some "key", .Lambda params (.Subscript (.Name x p1) (.Constant (.int 0) j p2) p3) scope lpos, kpos⟩] pos) (tSortIt P q te) := by
  obtain ⟨w1, w2, w3, w4, w5, w6⟩ := hS
  refine ⟨fun pins s σ H Q I hqq => ?_⟩
  have TB := hTB I.ok.mod.kin
  refine wpAny_Call_Name_kw (ld_blt I hg hm PyProof.Rows.boot_sorted ?_)
  refine PyProof.Rows.callWith_kw ?_ (by rfl) (by rfl) (by rfl) (by rfl)
  show wpAny _ _ (spliced ((false, eval (.Call (.Attribute e "items" apos) [] [] cpos) X.env) :: backTo pos (starEach [] X.env))) _ _ s
  refine Calls.spliced_cons ?_
  refine wpAny_Call_method (T := "dict") (id := "dict.items") hbase rfl hline F.plainAttrs_dict F.slot_dict_items F.type_dict_items (thn (he.run pins s σ H _ I hqq) fun u s1 ⟨y, H1, I1, rx, d, kvs, ex, hd, hal, hT, hk⟩ => ?_)
  subst ex
  obtain rfl : u = Value.ref d := rx
  obtain ⟨hz, hs0, vs, kv, hdo⟩ := I1.hok d _ hd
  refine ⟨hdo.typeIs, hdo.mapOf.noDict, ?_⟩
  show wpAny _ _ (callWith cpos (.builtin "dict.items") [.ref d] [] []) _ X.xe s1
  refine method_meetsIn F.slot_dict_items F.entry_dict_items rfl (PySem.evalArgs_none ⟨rfl, hdo.typeIs, F.args_dict_items_1 _, _, meets_dict_items (mixKind X.prog X.w) d hs0, ⟨vs, hdo⟩, ?_⟩)
  refine Calls.spliced_nil ?_
  have hv0 : H1 s1.heap.objs.size = none := I1.hok.fresh (Nat.le_refl _)
  have I2 : Inv X pins σ H1 { s1 with heap := s1.heap.push { cls := .type "dict_items", data := .fields #[.ref d] } } := I1.kept (t' := s1.toks) fun b ob q => Heap.get?_push_of_some _ q
  have hvw : (s1.heap.push { cls := .type "dict_items", data := .fields #[.ref d] }).get? s1.heap.objs.size = some { cls := .type "dict_items", data := .fields #[.ref d] } := Heap.get?_push_size _ rfl
  have I2p := I2.pinned (fp := [s1.heap.objs.size]) (fun b hb => by rw [List.mem_singleton.mp hb]; exact I1.fpOk (Nat.le_refl _) hv0) (fun b hb => by obtain rfl := List.mem_singleton.mp hb; exact ⟨_, hvw, fun v z => by cases z⟩)
  refine PyProof.Rows.kwAll_cons (lam_one I2p TB hcode hq hT hdef (fun y hy z => by rw [w5 y hy] at z; cases z) fun f c' pm ctv H2 s3 I3 st hT2 hf hco => ?_)
  refine PyProof.Rows.kwAll_nil ?_
  show wpAny _ _ (call (.builtin "sorted") [.ref s1.heap.objs.size] [(Str.ofString "key", .ref f)]) _ _ s3
  have hv3 : s3.heap.get? s1.heap.objs.size = some { cls := .type "dict_items", data := .fields #[.ref d] } := by
    have z := I3.pin (s1.heap.objs.size, { cls := .type "dict_items", data := .fields #[.ref d] }) (List.mem_append_right _ (List.mem_append_right _ (by simp [pinsAt, hvw])))
    exact z.1
  have dP : d ≠ P := fun z => by
    obtain ⟨ps, hP, _⟩ := hT
    rw [z, hP] at hd
    cases hd
  obtain ⟨hz3, _, vs3, kv3, hdo3⟩ := I3.hok d _ (st d _ hd dP)
  obtain ⟨ep, hat⟩ := hdo3.dictAt
  obtain ⟨⟨oc, vc, tc, hoc, hdc, hvc⟩, _, _⟩ := I3.hok c' _ hco
  have lk3 : kvs.length = vs3.length := Paired.length kv3
  have I4 : Inv X pins σ H2 s3 := I3.pins_of fun p hp => I3.pin p (List.mem_append_right _ (List.mem_append_left _ hp))
  refine sorted_items (hr.hd) (by have := hr.un; omega) ⟨_, hv3, rfl, rfl⟩ hat (by omega) kv3 hal (fun t a b h tk hk ht => ?_) fun h' tk S cc as out hS0 hk' hl hG nS hS' he' => ?_
  · exact lam_first (by have := hr.dp; show X.A.depth < _; omega) (I3.nolimit.keeps hk) (hk _ _ hf) ⟨c', oc, vc, tc, rfl, hk _ _ hoc, hdc, hvc⟩ (fun v => hbind _ _ _ _ v) w1 w2 w3 w4 (fun y hy z => by rw [w5 y hy] at z; cases z) w6 ht
  · obtain ⟨ts, rfl, hp⟩ := each_paired (f := Value.ref) (F := fun (a : Addr) (y : Key × V) => ∃ j : Nat, as[j]? = some a ∧ kvs[j]? = some y) he' fun v y ⟨j, a, e1, e2, e3⟩ => ⟨a, e1, j, e2, e3⟩
    have lt : ts.length = kvs.length := by rw [Paired.length hp, List.length_mergeSort]
    obtain ⟨H', k1, k2, k3, k5, k6, J⟩ := pairs_laid (tk := tk) (os := ts) I4 hS0 (Nat.le_refl _) nS (by omega) kv3 hk' hS' hl hG (by rw [List.toList_toArray])
    have tn : ∀ t ∈ ts, H2 t = none := fun t ht => by
      obtain ⟨j, y, g1, g2, i, g3, g4⟩ := LiI.paired_ix hp ht
      exact k3 t (List.mem_of_getElem? g3)
    have dn : ∀ b, H2 b = none → H1 b = none := fun b e => by
      cases q : H1 b with
      | none => rfl
      | some o =>
        by_cases z : b = P
        · obtain ⟨ps, hP, _⟩ := hT2
          rw [z, hP] at e
          cases e
        · rw [st b o q z] at e
          cases e
    have hT3 : TabS H' P q := hT2.ext k1
    refine ⟨.ref S, H', J, rfl, hk H' S ts (fun a o e n => k1 a o (st a o e n)) hT3 (dn _ k2) (fun t ht => dn _ (tn t ht)) k5 (Paired.imp (fun t y ⟨j, e1, e2⟩ => ?_) hp)⟩
    obtain ⟨y', f1, f2⟩ := LiI.paired_get k6 e1
    rw [e2] at f1
    cases f1
    exact f2
end
/-- from the text: a def that makes a lambda; its code object is known -/
theorem DefOk.mkC {P : Program} {w : World} {K : Frag} {mg : Str → Option Value} {base : Heap} {x qual : Str} {pa : Arguments} {body : List Stmt} {sc : Scope} {f : Addr} {N ps : List Str} {k : Nat} {sp : Sp} {p : Str × Option Str}
    (F : ∃ fd, FunD K x qual pa body sc [] [] f fd) (hf : f = fAd K p) (S : FnScope N ps sc)
    (hb : ∀ (kV doc pm : Value) (an : Option Addr) (cdv ct : Value) (us : List Value), us.length = ps.length → bindArgs (fnOf x qual pa body sc .none kV doc pm an cdv ct) ⟨us, []⟩ = pure (ps.zip us))
    (len : ∀ vs H Q E, sp vs H Q E → vs.length = ps.length)
    (hbody : ∀ (A : Around) (outer : List Env) (s : Shared) (H : Hp) (vs : List V) (Q : VK) (E : XK), Room k (A.deeper (envOfC qual sc s.heap.objs.size f (.ref (codeOf K p)))) → sp vs H Q E →
      ∃ t, PSs (cxOf CX0 P w K mg base N qual sc f (.ref (codeOf K p)) A outer s H E).nox body t ∧ t { nx := fun _ H' => Q .non H', rt := Q } (start N vs) H) : DefOk ⟨P, w, K, mg, base⟩ (k + 1) f ps sp := by
  obtain ⟨fd, F⟩ := F
  refine ⟨⟨fd, ?_, F.bindsN hb⟩, F.kp⟩
  obtain ⟨oc, od, dV, kV, doc, pm, an, cdv, ct, osl, rfl, lk, hcd, _, _⟩ := F.ex
  obtain ⟨c, rfl⟩ := codeIn_ref hcd
  have e := codeOf_eq (p := p) (by rw [← hf]; exact lk) rfl
  subst e
  refine fn_of lk hcd S len fun A outer s H vs Q E hr h => ?_
  obtain ⟨t, p, q⟩ := hbody A outer s H vs Q E hr h
  exact ⟨t, p.nox, q⟩
theorem Room.two {k : Nat} {A : Around} (hr : Room (k + 2) A) : Room 2 A := hr.mono (Nat.le_add_left 2 k)
end WB
/-! How a heap bears things and their names. -/
namespace WB
open PySem PySem.Spec PyProof.Rows L2 He
def Body.part : Body → Str
  | .wat _ _ => "sees"
  | _ => "cells"
/-- a thing's attributes, in the order in which they are stored first -/
def thF (n : Nat) (kind : Str) (got due : Bool) (goal : V) (pn : Str) (pv : V) : List (Str × V) :=
  [("number", .int (n : Int)), ("kind", .str kind), ("got_last", .bl got), ("due", .bl due), ("goal", goal), (pn, pv)]
section
variable {n : Nat} {kind : Str} {got due b : Bool} {goal : V} {pv u : V}
theorem thF_number {pn : Str} : (thF n kind got due goal pn pv).lookup ("number" : Str) = some (.int n) := by kernel_rfl
theorem thF_kind {pn : Str} : (thF n kind got due goal pn pv).lookup ("kind" : Str) = some (.str kind) := by kernel_rfl
theorem thF_got {pn : Str} : (thF n kind got due goal pn pv).lookup ("got_last" : Str) = some (.bl got) := by kernel_rfl
theorem thF_due {pn : Str} : (thF n kind got due goal pn pv).lookup ("due" : Str) = some (.bl due) := by kernel_rfl
theorem thF_goal {pn : Str} : (thF n kind got due goal pn pv).lookup ("goal" : Str) = some goal := by kernel_rfl
theorem thF_cells : (thF n kind got due goal "cells" pv).lookup ("cells" : Str) = some pv := by kernel_rfl
theorem thF_sees : (thF n kind got due goal "sees" pv).lookup ("sees" : Str) = some pv := by kernel_rfl
theorem thF_put_got {pn : Str} : putF "got_last" (.bl b) (thF n kind got due goal pn pv) = thF n kind b due goal pn pv := by kernel_rfl
theorem thF_put_due {pn : Str} : putF "due" (.bl b) (thF n kind got due goal pn pv) = thF n kind got b goal pn pv := by kernel_rfl
theorem thF_put_goal {pn : Str} : putF "goal" u (thF n kind got due goal pn pv) = thF n kind got due u pn pv := by kernel_rfl
theorem thF_put_sees : putF "sees" u (thF n kind got due goal "sees" pv) = thF n kind got due goal "sees" u := by kernel_rfl
theorem thF_len {pn : Str} : (thF n kind got due goal pn pv).length < 1000 := by show 6 < 1000; decide
end
def BodyAt (H : Hp) (c : Addr) (pv : V) : Body → Prop
  | .dic _ kvs => pv = .ref c ∧ ∃ vs, H c = some (.dK vs) ∧ KVR H vs kvs
  | .row xs => pv = .ref c ∧ ∃ vs, H c = some (.lst vs) ∧ LVR H vs xs
  | .wat s g => VR H pv (if g then .non else .ref s)
/-- the thing n stands at a, its parts at c -/
def ThAt (K : PySem.W.Frag) (H : Hp) (a c : Addr) (n : Nat) (t : Th) : Prop :=
  ∃ dx pv, H a = some (.ins (ga K t.body.cls) dx (thF n t.body.kind (t.last != .no) (t.last == .due) t.goal t.body.part pv)) ∧ BodyAt H c pv t.body
/-- what it owns -/
def Body.own (a c : Addr) : Body → List Addr
  | .wat _ _ => [a]
  | _ => [a, c]
def heF (n t : Addr) (made : Nat) (ch : V) : List (Str × V) := [("names", .ref n), ("things", .ref t), ("made", .int (made : Int)), ("change", ch)]
section
variable {n t u : Addr} {made m : Nat} {ch v : V}
theorem heF_names : (heF n t made ch).lookup ("names" : Str) = some (.ref n) := by kernel_rfl
theorem heF_things : (heF n t made ch).lookup ("things" : Str) = some (.ref t) := by kernel_rfl
theorem heF_made : (heF n t made ch).lookup ("made" : Str) = some (.int made) := by kernel_rfl
theorem heF_change : (heF n t made ch).lookup ("change" : Str) = some ch := by kernel_rfl
theorem heF_put_change : putF "change" v (heF n t made ch) = heF n t made v := by kernel_rfl
theorem heF_put_made : putF "made" (.int (m : Int)) (heF n t made ch) = heF n t m ch := by kernel_rfl
theorem heF_len : (heF n t made ch).length < 1000 := by show 4 < 1000; decide
end
def Body.isWat : Body → Bool
  | .wat _ _ => true
  | _ => false
/-- the dicts and lists that are no object's alone by what they are -/
structure Apart (S : Sta) (live : List Nat) (n t : Addr) (C : Nat → Addr) : Prop where
  nt : n ≠ t
  cn : ∀ k ∈ live, (S.th k).body.isWat = false → C k ≠ n ∧ C k ≠ t
  cc : ∀ j ∈ live, ∀ k ∈ live, (S.th j).body.isWat = false → (S.th k).body.isWat = false → j ≠ k → C j ≠ C k
/-- an object that may change -/
def NS (H : Hp) (b : Addr) : Prop := ∃ o, H b = some o ∧ still o = false
theorem NS.ne {H : Hp} {b : Addr} (h : NS H b) : H b ≠ none := by
  obtain ⟨o, e, _⟩ := h
  rw [e]; intro z; cases z
theorem NS.put {H : Hp} {a b : Addr} {o : HO} (ho : still o = false) (h : NS H b) : NS (upd H a o) b := by
  by_cases z : b = a
  · exact ⟨o, by rw [z, upd_same], ho⟩
  · obtain ⟨u, e, q⟩ := h
    exact ⟨u, by rw [upd_ne z]; exact e, q⟩
theorem NS.same {H H' : Hp} {b : Addr} (s : Same H H') (h : NS H b) : NS H' b := by
  obtain ⟨o, e, q⟩ := h
  exact ⟨o, s _ _ e, q⟩
structure Owned (H : Hp) (S : Sta) (live : List Nat) (O : List Addr) (h n t : Addr) (A C : Nat → Addr) : Prop where
  h : h ∈ O
  n : n ∈ O
  t : t ∈ O
  a : ∀ k ∈ live, A k ∈ O
  c : ∀ k ∈ live, (S.th k).body.isWat = false → C k ∈ O
  tr : ∀ b ∈ O, NS H b
theorem Owned.heap {H H' : Hp} {S : Sta} {live : List Nat} {O : List Addr} {h n t : Addr} {A C : Nat → Addr} (o : Owned H S live O h n t A C) (hh : ∀ b, NS H b → NS H' b) : Owned H' S live O h n t A C :=
  ⟨o.h, o.n, o.t, o.a, o.c, fun b hb => hh b (o.tr b hb)⟩
theorem upd_some {H : Hp} {a b : Addr} {o : HO} (h : H b ≠ none) : upd H a o b ≠ none := by
  unfold upd; split
  · intro z; cases z
  · exact h
theorem same_some {H H' : Hp} (s : Same H H') {b : Addr} (h : H b ≠ none) : H' b ≠ none := by
  cases e : H b with
  | none => exact absurd e h
  | some o => rw [s b o e]; intro z; cases z
/-- the heap object at h bears the state S, of whose things those in live are there; what it may change lies in O -/
def HeapX (K : PySem.W.Frag) (H : Hp) (h : Addr) (S : Sta) (live : List Nat) (O : List Addr) (dh n t : Addr) (ch : V) (A C : Nat → Addr) : Prop :=
  ∃ (vs : List (Key × V)), H h = some (.ins (ga K "Heap") dh (heF n t S.made ch)) ∧ H n = some (.dK vs) ∧ KVR H vs S.names ∧
    H t = some (.dK (live.map fun (k : Nat) => ((.inl (k : Int) : Key), V.ref (A k)))) ∧ (∀ k ∈ live, ThAt K H (A k) (C k) k (S.th k)) ∧ Apart S live n t C ∧ Owned H S live O h n t A C
def HeapAt (K : PySem.W.Frag) (H : Hp) (h : Addr) (S : Sta) (live : List Nat) (O : List Addr) : Prop :=
  ∃ (dh n t : Addr) (ch : V) (A C : Nat → Addr), HeapX K H h S live O dh n t ch A C
theorem BodyAt.same {H H' : Hp} (s : Same H H') {c : Addr} {pv : V} : {b : Body} → BodyAt H c pv b → BodyAt H' c pv b
  | .dic _ _, ⟨e, vs, h1, h2⟩ => ⟨e, vs, s _ _ h1, KVR.mono (Same.tup s) h2⟩
  | .row _, ⟨e, vs, h1, h2⟩ => ⟨e, vs, s _ _ h1, LVR.mono (Same.tup s) h2⟩
  | .wat _ _, h => VR.mono (Same.tup s) h
theorem ThAt.same {K : PySem.W.Frag} {H H' : Hp} (s : Same H H') {a c : Addr} {n : Nat} {t : Th} (h : ThAt K H a c n t) : ThAt K H' a c n t := by
  obtain ⟨dx, pv, h1, h2⟩ := h
  exact ⟨dx, pv, s _ _ h1, h2.same s⟩
theorem HeapAt.same {K : PySem.W.Frag} {H H' : Hp} (s : Same H H') {h : Addr} {S : Sta} {live : List Nat} {O : List Addr} (hh : HeapAt K H h S live O) : HeapAt K H' h S live O := by
  obtain ⟨dh, n, t, ch, A, C, vs, e1, e2, e3, e4, e5, e6, e7⟩ := hh
  exact ⟨dh, n, t, ch, A, C, vs, s _ _ e1, s _ _ e2, KVR.mono (Same.tup s) e3, s _ _ e4, fun k hk => (e5 k hk).same s, e6, e7.heap fun _ => NS.same s⟩
theorem val_live {A : Nat → Addr} : ∀ {live : List Nat} {k : Nat}, k ∈ live → valV (live.map fun (k : Nat) => ((.inl (k : Int) : Key), V.ref (A k))) (.inl (k : Int)) = some (.ref (A k))
  | j :: r, k, h => by
    by_cases e : j = k
    · subst e; exact valV_pos rfl
    · have ne : ¬ ((.inl (j : Int) : Key) = .inl (k : Int)) := fun z => e (Int.ofNat.inj (Sum.inl.inj z))
      rw [List.map_cons, valV_neg (p := ((.inl (j : Int) : Key), V.ref (A j))) ne]
      exact val_live ((List.mem_cons.mp h).elim (fun z => absurd z.symm e) id)
end WB
/-! What is asked of a thing's parts, on the abstract side. -/
namespace WB
open PySem PySem.Spec PyProof.Rows L2 He
def Body.isDic : Body → Bool
  | .dic _ _ => true
  | _ => false
def Body.isRow : Body → Bool
  | .row _ => true
  | _ => false
theorem Body.notWat {b : Body} (h : b.isWat = false) : ∀ s g, b ≠ .wat s g := by
  rintro s g rfl; cases h
def Body.has : Body → Key → Bool
  | .dic _ kvs, k => (valV kvs k).isSome
  | .row xs, k => inR 0 xs.length k
  | .wat _ _, _ => false
def Body.fits : Body → Key → Bool
  | .dic true kvs, k => (valV kvs k).isSome
  | .dic false kvs, k => (valV kvs k).isSome || (inR 0 10 k && decide (kvs.length < 6))
  | .row xs, k => inR 0 (min ((xs.length : Int) + 1) 8) k
  | .wat _ _, _ => false
def keyN : Key → Nat
  | .inl i => i.toNat
  | .inr _ => 0
def Body.at : Body → Key → V
  | .dic _ kvs, k => (valV kvs k).getD .non
  | .row xs, k => xs.getD (keyN k) .non
  | .wat _ _, _ => .non
def Body.put : Body → Key → V → Body
  | .dic r kvs, k, v => .dic r (putK kvs k v)
  | .row xs, k, v => if keyN k = xs.length then .row (xs ++ [v]) else .row (xs.set (keyN k) v)
  | b, _, _ => b
def Body.cut : Body → Key → Body
  | .dic true kvs, k => .dic true (putK kvs k .non)
  | .dic false kvs, k => .dic false (dropK kvs k)
  | .row xs, k => .row (xs.eraseIdx (keyN k))
  | b, _ => b
def Body.size : Body → Int
  | .dic true kvs => 1 + kvs.length
  | .dic false kvs => 1 + 2 * kvs.length
  | .row xs => 1 + xs.length
  | .wat _ _ => 2
theorem Body.put_cls (b : Body) (k : Key) (v : V) : (b.put k v).cls = b.cls ∧ (b.put k v).kind = b.kind ∧ (b.put k v).part = b.part ∧ ∀ a c, (b.put k v).own a c = b.own a c := by
  cases b with
  | dic r kvs => cases r <;> exact ⟨rfl, rfl, rfl, fun _ _ => rfl⟩
  | row xs =>
    by_cases e : keyN k = xs.length
    · have q : (Body.row xs).put k v = .row (xs ++ [v]) := if_pos e
      rw [q]; exact ⟨rfl, rfl, rfl, fun _ _ => rfl⟩
    · have q : (Body.row xs).put k v = .row (xs.set (keyN k) v) := if_neg e
      rw [q]; exact ⟨rfl, rfl, rfl, fun _ _ => rfl⟩
  | wat s g => exact ⟨rfl, rfl, rfl, fun _ _ => rfl⟩
theorem Body.cut_cls (b : Body) (k : Key) : (b.cut k).cls = b.cls ∧ (b.cut k).kind = b.kind ∧ (b.cut k).part = b.part ∧ ∀ a c, (b.cut k).own a c = b.own a c := by
  cases b with
  | dic r kvs => cases r <;> exact ⟨rfl, rfl, rfl, fun _ _ => rfl⟩
  | row xs => exact ⟨rfl, rfl, rfl, fun _ _ => rfl⟩
  | wat s g => exact ⟨rfl, rfl, rfl, fun _ _ => rfl⟩
/-- how a body may be -/
def Body.wf : Body → Prop
  | .dic true kvs => kvs.map (·.1) = letK
  | .dic false kvs => (kvs.map (·.1)).Nodup ∧ kvs.length ≤ 6 ∧ ∀ p ∈ kvs, ∃ i : Int, p.1 = .inl i ∧ 0 ≤ i ∧ i < 10
  | .row xs => xs.length ≤ 8
  | .wat _ _ => True
end WB
/-! Parts as they are shown. -/
namespace WB
open PySem PySem.Spec PyProof.Rows L2 He
def srtI (ks : List Int) : List Int := ks.mergeSort fun a b => decide (a ≤ b)
theorem srtI_perm (ks : List Int) : (srtI ks).Perm ks := List.mergeSort_perm _ _
theorem srtI_le (ks : List Int) : (srtI ks).Pairwise (· ≤ ·) := by
  have h := List.pairwise_mergeSort (le := fun (a b : Int) => decide (a ≤ b)) (fun a b c h1 h2 => by simp only [decide_eq_true_eq] at *; omega) (fun a b => by simp only [Bool.or_eq_true, decide_eq_true_eq]; omega) ks
  exact h.imp fun h => by simpa using h
theorem srtI_eq {ys ks : List Int} (h : ys.Perm ks) (hs : ys.Pairwise (· ≤ ·)) : ys = srtI ks :=
  List.Perm.eq_of_pairwise (fun _ _ _ _ a b => Int.le_antisymm a b) hs (srtI_le ks) (h.trans (srtI_perm ks).symm)
def bkeys (kvs : List (Key × V)) : List Int := kvs.filterMap fun p => match p.1 with | .inl i => some i | .inr _ => none
theorem bkeys_map : ∀ {kvs : List (Key × V)}, (∀ p ∈ kvs, ∃ i : Int, p.1 = .inl i ∧ 0 ≤ i ∧ i < 10) → kvs.map (·.1) = (bkeys kvs).map Sum.inl
  | [], _ => rfl
  | p :: r, h => by
    obtain ⟨i, e, _⟩ := h p List.mem_cons_self
    have ih := bkeys_map (kvs := r) fun q hq => h q (List.mem_cons_of_mem _ hq)
    have eb : bkeys (p :: r) = i :: bkeys r := by
      unfold bkeys
      rw [List.filterMap_cons, e]
    rw [eb, List.map_cons, List.map_cons, ih, e]
def lets : List Str := ["a", "b", "c", "d"]
theorem lets_eq {ys : List Str} (h : ys.Perm lets) (hs : sortedS ys = true) : ys = lets := by
  have hl : ys.length = 4 := h.length_eq
  have hm : ∀ y ∈ ys, y ∈ lets := fun y hy => h.mem_iff.mp hy
  have hn : ys.Nodup := h.nodup_iff.mpr (by decide +kernel)
  match ys, hl, hm, hn, hs with
  | [y1, y2, y3, y4], _, hm, hn, hs =>
    have key : ∀ a ∈ lets, ∀ b ∈ lets, ∀ c ∈ lets, ∀ d ∈ lets, sortedS [a, b, c, d] = true → [a, b, c, d].Nodup → [a, b, c, d] = lets := by decide +kernel
    exact key y1 (hm _ (by simp)) y2 (hm _ (by simp)) y3 (hm _ (by simp)) y4 (hm _ (by simp)) hs hn
def Body.shown : Body → List (Key × V)
  | .dic true kvs => letK.map fun k => (k, (valV kvs k).getD .non)
  | .dic false kvs => (srtI (bkeys kvs)).map fun i => (.inl i, (valV kvs (.inl i)).getD .non)
  | .row xs => xs.zipIdx.map fun p => (.inl (p.2 : Int), p.1)
  | .wat s g => [(.inr "sees", if g then .non else .ref s)]
/-- its things' numbers -/
def refs (vs : List V) : List Nat := vs.filterMap fun v => match v with | .ref k => some k | _ => none
def Body.held : Body → List Nat
  | .wat _ _ => []
  | b => refs (b.shown.map (·.2))
/-- at l a list of new pairs of part and value -/
def ShownAt (H : Hp) (l : Addr) (ps : List (Key × V)) : Prop :=
  ∃ ts : List Addr, H l = some (.lst (ts.map V.ref)) ∧ Paired (fun t p => ∃ v, H t = some (.tup [kV p.1, v]) ∧ VR H v p.2) ts ps
theorem take_snoc {α : Type} {xs : List α} {i : Nat} {x : α} (h : xs[i]? = some x) : xs.take (i + 1) = xs.take i ++ [x] := by
  rw [List.take_add_one, h]; rfl
def ShInv (H : Hp) (D : Addr) (ps : List (Key × V)) (H' : Hp) : Prop := Same H H' ∧ ShownAt H' D ps
theorem ShInv.nil {H H' : Hp} {D : Addr} (s : Same H H') (hD : H' D = none) (h0 : H D = none) : ShInv H D [] (upd H' D (.lst [])) := ⟨same_mut s h0, [], upd_same, .nil⟩
theorem ShInv.step {H H' : Hp} {D q : Addr} {ps : List (Key × V)} {k : Key} {v x : V} (h : ShInv H D ps H') (hD : H D = none) (hq : H' q = none) (r : VR H v x) :
    ∃ acc, upd H' q (.tup [kV k, v]) D = some (.lst acc) ∧ acc.length = ps.length ∧ ShInv H D (ps ++ [(k, x)]) (upd (upd H' q (.tup [kV k, v])) D (.lst (acc ++ [.ref q]))) := by
  obtain ⟨s, ts, e, pr⟩ := h
  have nDq : D ≠ q := ne_of_none e hq
  have s1 : Same H (upd H' q (.tup [kV k, v])) := same_mut s (s.free hq)
  have tp : Tup H' (upd (upd H' q (.tup [kV k, v])) D (.lst (ts.map V.ref ++ [.ref q]))) := ⟨fun b xs eb => by
    have n1 : b ≠ D := by rintro rfl; rw [e] at eb; cases eb
    rw [upd_ne n1, upd_ne (ne_of_none eb hq)]; exact eb, fun b xs eb => by
    have n1 : b ≠ D := by rintro rfl; rw [e] at eb; cases eb
    rw [upd_ne n1, upd_ne (ne_of_none eb hq)]; exact eb⟩
  refine ⟨_, by rw [upd_ne nDq]; exact e, ?_, same_mut s1 hD, ts ++ [q], ?_, ?_⟩
  · rw [List.length_map]; exact Paired.length pr
  · rw [List.map_append]; exact upd_same
  · refine Paired.app (Paired.imp (fun t p ⟨u, h1, h2⟩ => ⟨u, tp _ _ h1, VR.mono tp h2⟩) pr) (.cons ⟨v, ?_, ?_⟩ .nil)
    · rw [upd_ne nDq.symm]; exact upd_same
    · exact VR.mono tp (VR.mono (Same.tup s) r)
theorem thF_no_shown {n : Nat} {kind : Str} {got due : Bool} {goal pv : V} (b : Body) : (thF n kind got due goal b.part pv).lookup ("shown" : Str) = none := by
  cases b with
  | wat s g => kernel_rfl
  | dic r x => kernel_rfl
  | row x => kernel_rfl
theorem thF_no_has {n : Nat} {kind : Str} {got due : Bool} {goal pv : V} (b : Body) : (thF n kind got due goal b.part pv).lookup ("has" : Str) = none := by
  cases b with
  | wat s g => kernel_rfl
  | dic r x => kernel_rfl
  | row x => kernel_rfl
theorem thF_no_fits {n : Nat} {kind : Str} {got due : Bool} {goal pv : V} (b : Body) : (thF n kind got due goal b.part pv).lookup ("fits" : Str) = none := by
  cases b with
  | wat s g => kernel_rfl
  | dic r x => kernel_rfl
  | row x => kernel_rfl
theorem thF_no_at {n : Nat} {kind : Str} {got due : Bool} {goal pv : V} (b : Body) : (thF n kind got due goal b.part pv).lookup ("at" : Str) = none := by
  cases b with
  | wat s g => kernel_rfl
  | dic r x => kernel_rfl
  | row x => kernel_rfl
theorem thF_no_put {n : Nat} {kind : Str} {got due : Bool} {goal pv : V} (b : Body) : (thF n kind got due goal b.part pv).lookup ("put" : Str) = none := by
  cases b with
  | wat s g => kernel_rfl
  | dic r x => kernel_rfl
  | row x => kernel_rfl
theorem thF_no_cut {n : Nat} {kind : Str} {got due : Bool} {goal pv : V} (b : Body) : (thF n kind got due goal b.part pv).lookup ("cut" : Str) = none := by
  cases b with
  | wat s g => kernel_rfl
  | dic r x => kernel_rfl
  | row x => kernel_rfl
theorem thF_no_size {n : Nat} {kind : Str} {got due : Bool} {goal pv : V} (b : Body) : (thF n kind got due goal b.part pv).lookup ("size" : Str) = none := by
  cases b with
  | wat s g => kernel_rfl
  | dic r x => kernel_rfl
  | row x => kernel_rfl
theorem thF_no_held {n : Nat} {kind : Str} {got due : Bool} {goal pv : V} (b : Body) : (thF n kind got due goal b.part pv).lookup ("held" : Str) = none := by
  cases b with
  | wat s g => kernel_rfl
  | dic r x => kernel_rfl
  | row x => kernel_rfl
theorem Body.shown_len {b : Body} (h : b.wf) : b.shown.length ≤ 8 := by
  cases b with
  | dic r kvs =>
    cases r with
    | true => show (List.map _ _).length ≤ 8; rw [List.length_map]; decide
    | false =>
      show (List.map _ _).length ≤ 8
      rw [List.length_map, (srtI_perm _).length_eq]
      exact Nat.le_trans (List.length_filterMap_le _ _) (Nat.le_trans h.2.1 (by decide))
  | row xs =>
    show (List.map _ _).length ≤ 8
    rw [List.length_map, List.length_zipIdx]; exact h
  | wat s g => show 1 ≤ 8; decide
theorem refs_app (xs ys : List V) : refs (xs ++ ys) = refs xs ++ refs ys := List.filterMap_append
theorem Body.held_eq {b : Body} (h : b.isWat = false) : b.held = refs (b.shown.map (·.2)) := by
  cases b with
  | wat s g => cases h
  | _ => rfl
theorem Body.held_len {b : Body} (h : b.wf) : b.held.length ≤ 8 := by
  cases eW : b.isWat with
  | true =>
    cases b with
    | wat s g => exact Nat.zero_le _
    | dic r x => cases eW
    | row x => cases eW
  | false =>
    rw [Body.held_eq eW]
    refine Nat.le_trans (List.length_filterMap_le _ _) ?_
    rw [List.length_map]; exact Body.shown_len h
end WB
/-! Who is come to. -/
namespace WB
open PySem PySem.Spec PyProof.Rows L2 He
/-- among am, from st along nx -/
inductive Rch (nx : Nat → List Nat) (am : Nat → Prop) (st : List Nat) : Nat → Prop
  | start {k : Nat} (h : k ∈ st) (ha : am k) : Rch nx am st k
  | step {j k : Nat} (h : Rch nx am st j) (hk : k ∈ nx j) (ha : am k) : Rch nx am st k
theorem Rch.am {nx : Nat → List Nat} {am : Nat → Prop} {st : List Nat} {k : Nat} (h : Rch nx am st k) : am k := by cases h <;> assumption
/-- the walk's word: F found, W waiting -/
structure Seek (nx : Nat → List Nat) (am : Nat → Prop) (st F W : List Nat) : Prop where
  nd : F.Nodup
  fr : ∀ k ∈ F, Rch nx am st k
  wr : ∀ k ∈ W, am k → Rch nx am st k
  st : ∀ k ∈ st, am k → k ∈ F ∨ k ∈ W
  cl : ∀ j ∈ F, ∀ k ∈ nx j, am k → k ∈ F ∨ k ∈ W
theorem Seek.init {nx : Nat → List Nat} {am : Nat → Prop} {st : List Nat} : Seek nx am st [] st :=
  ⟨List.nodup_nil, (fun _ h => nomatch h), fun _ h a => .start h a, fun _ h _ => .inr h, (fun _ h => nomatch h)⟩
theorem Seek.skip {nx : Nat → List Nat} {am : Nat → Prop} {st F W : List Nat} {x : Nat} (s : Seek nx am st F (W ++ [x])) (h : ¬ (am x ∧ x ∉ F)) : Seek nx am st F W := by
  have drop : ∀ k, am k → k ∈ F ∨ k ∈ W ++ [x] → k ∈ F ∨ k ∈ W := fun k ha hk => by
    rcases hk with hk | hk
    · exact .inl hk
    · rcases List.mem_append.mp hk with hk | hk
      · exact .inr hk
      · rw [List.mem_singleton] at hk
        subst hk
        by_cases q : k ∈ F
        · exact .inl q
        · exact absurd ⟨ha, q⟩ h
  exact ⟨s.nd, s.fr, fun k hk => s.wr k (List.mem_append_left _ hk), fun k hk ha => drop k ha (s.st k hk ha), fun j hj k hk ha => drop k ha (s.cl j hj k hk ha)⟩
theorem Seek.take {nx : Nat → List Nat} {am : Nat → Prop} {st F W : List Nat} {x : Nat} (s : Seek nx am st F (W ++ [x])) (ha : am x) (hx : x ∉ F) : Seek nx am st (F ++ [x]) (W ++ nx x) := by
  have rx : Rch nx am st x := s.wr x (by simp) ha
  have go : ∀ k, k ∈ F ∨ k ∈ W ++ [x] → k ∈ F ++ [x] ∨ k ∈ W ++ nx x := fun k hk => by
    rcases hk with hk | hk
    · exact .inl (List.mem_append_left _ hk)
    · rcases List.mem_append.mp hk with hk | hk
      · exact .inr (List.mem_append_left _ hk)
      · exact .inl (List.mem_append_right _ hk)
  refine ⟨?_, fun k hk => ?_, fun k hk hka => ?_, fun k hk hka => go k (s.st k hk hka), fun j hj k hk hka => ?_⟩
  · exact nd_snoc s.nd hx
  · rcases List.mem_append.mp hk with hk | hk
    · exact s.fr k hk
    · rw [List.mem_singleton] at hk; subst hk; exact rx
  · rcases List.mem_append.mp hk with hk | hk
    · exact s.wr k (List.mem_append_left _ hk) hka
    · exact .step rx hk hka
  · rcases List.mem_append.mp hj with hj | hj
    · exact go k (s.cl j hj k hk hka)
    · rw [List.mem_singleton] at hj; subst hj
      exact .inr (List.mem_append_right _ hk)
theorem Seek.done {nx : Nat → List Nat} {am : Nat → Prop} {st F : List Nat} (s : Seek nx am st F []) (k : Nat) : k ∈ F ↔ Rch nx am st k := by
  refine ⟨s.fr k, fun h => ?_⟩
  induction h with
  | start h ha => exact (s.st _ h ha).elim id fun z => nomatch z
  | step _ hk ha ih => exact (s.cl _ ih _ hk ha).elim id fun z => nomatch z
theorem nodup_sub_len : ∀ {F am : List Nat}, F.Nodup → (∀ k ∈ F, k ∈ am) → F.length ≤ am.length
  | [], _, _, _ => Nat.zero_le _
  | x :: F, am, nd, h => by
    obtain ⟨n1, n2⟩ := List.nodup_cons.mp nd
    have hx : x ∈ am := h x List.mem_cons_self
    have ih := nodup_sub_len (F := F) (am := am.erase x) n2 fun k hk => (List.mem_erase_of_ne (by rintro rfl; exact n1 hk)).mpr (h k (List.mem_cons_of_mem _ hk))
    rw [List.length_erase_of_mem hx] at ih
    have : 0 < am.length := List.length_pos_of_mem hx
    rw [List.length_cons]; omega
/-- ints of numbers -/
def nV (ks : List Nat) : List V := ks.map fun (k : Nat) => V.int (k : Int)
def foundD (ks : List Nat) : List (Key × V) := ks.map fun (k : Nat) => ((.inl (k : Int) : Key), V.bl true)
theorem val_keys {kvs : List (Key × V)} {am : List Nat} (h : kvs.map (·.1) = am.map fun (k : Nat) => (.inl (k : Int) : Key)) (k : Nat) : (valV kvs (.inl (k : Int))).isSome = decide (k ∈ am) := by
  have mem : (.inl (k : Int) : Key) ∈ kvs.map (·.1) ↔ k ∈ am := by
    rw [h, List.mem_map]
    exact ⟨fun ⟨j, hj, e⟩ => by have : j = k := Int.ofNat.inj (Sum.inl.inj e); exact this ▸ hj, fun hk => ⟨k, hk, rfl⟩⟩
  cases e : valV kvs (.inl (k : Int)) with
  | some v => rw [decide_eq_true (mem.mp (valV_in e))]; rfl
  | none => rw [decide_eq_false (fun z => valV_not e (mem.mpr z))]; rfl
theorem foundD_keys (ks : List Nat) : (foundD ks).map (·.1) = ks.map fun (k : Nat) => (.inl (k : Int) : Key) := by
  unfold foundD; rw [List.map_map]; rfl
theorem foundD_put {ks : List Nat} {k : Nat} (h : k ∉ ks) : putK (foundD ks) (.inl (k : Int)) (.bl true) = foundD (ks ++ [k]) := by
  have e : valV (foundD ks) (.inl (k : Int)) = none := by
    have := val_keys (foundD_keys ks) k
    rw [decide_eq_false h] at this
    cases q : valV (foundD ks) (.inl (k : Int)) with
    | none => rfl
    | some v => rw [q] at this; cases this
  rw [putK_new _ e]
  unfold foundD; rw [List.map_append]; rfl
theorem nV_snoc {xs : List V} {ks : List Nat} {x : V} (h : xs = nV ks) (hx : xs[xs.length - 1]? = some x) : ∃ (W : List Nat) (k : Nat), ks = W ++ [k] ∧ x = .int (k : Int) ∧ xs.dropLast = nV W := by
  subst h
  have hne : ks ≠ [] := by
    rintro rfl
    simp [nV] at hx
  refine ⟨ks.dropLast, ks.getLast hne, (List.dropLast_concat_getLast hne).symm, ?_, ?_⟩
  · unfold nV at hx
    rw [List.getElem?_map, List.length_map] at hx
    have e : ks[ks.length - 1]? = some (ks.getLast hne) := by rw [← List.getLast?_eq_getElem?]; exact List.getLast?_eq_some_getLast hne
    rw [e] at hx
    exact (Option.some.inj hx).symm
  · unfold nV; rw [List.map_dropLast]
end WB
/-! How what bears a state is changed in one place. -/
namespace WB
open PySem PySem.Spec PyProof.Rows L2 He
theorem tup_upd {H : Hp} {c : Addr} {o : HO} (h : ∀ u, H c = some u → still u = false) : Tup H (upd H c o) := ⟨fun b xs e => by
  have n : b ≠ c := by rintro rfl; cases h _ e
  rw [upd_ne n]; exact e, fun b xs e => by
  have n : b ≠ c := by rintro rfl; cases h _ e
  rw [upd_ne n]; exact e⟩
section
variable {K : PySem.W.Frag} {H : Hp} {h dh n t : Addr} {S : Sta} {live O : List Nat} {ch : V} {A C : Nat → Addr}
theorem thF_ne_heF {m : Nat} {k : Str} {g d : Bool} {gl : V} {pn : Str} {v : V} {n t : Addr} {made : Nat} {ch : V} : thF m k g d gl pn v ≠ heF n t made ch := by
  intro e
  have e1 := congrArg List.length e
  cases e1
theorem thF_inj {m j : Nat} {k k' : Str} {g d g' d' : Bool} {gl gl' : V} {pn pn' : Str} {v v' : V} (e : thF m k g d gl pn v = thF j k' g' d' gl' pn' v') : m = j := by
  unfold thF at e
  injection e with e1 _
  injection e1 with _ e2
  injection e2 with e3
  exact Int.ofNat.inj e3
theorem ThAt.ins {a c : Addr} {k : Nat} {th : Th} (x : ThAt K H a c k th) : ∃ C dx m kd g d gl pn v, H a = some (.ins C dx (thF m kd g d gl pn v)) ∧ m = k :=
  let ⟨dx, pv, h1, _⟩ := x; ⟨_, dx, _, _, _, _, _, _, pv, h1, rfl⟩
/-- a thing's other half: its parts -/
theorem ThAt.cell {a c : Addr} {k : Nat} {th : Th} (x : ThAt K H a c k th) (w : th.body.isWat = false) : ∃ o, H c = some o ∧ (∀ C d fs, o ≠ .ins C d fs) ∧ still o = false := by
  obtain ⟨dx, pv, _, h2⟩ := x
  cases e : th.body with
  | wat s g => rw [e] at w; cases w
  | dic r kvs => rw [e] at h2; obtain ⟨_, vs, h3, _⟩ := h2; exact ⟨_, h3, (by intro _ _ _ z; cases z), rfl⟩
  | row xs => rw [e] at h2; obtain ⟨_, vs, h3, _⟩ := h2; exact ⟨_, h3, (by intro _ _ _ z; cases z), rfl⟩
/-- it stands where nothing of it is changed -/
theorem ThAt.off {a c x : Addr} {k : Nat} {th : Th} {o : HO} (y : ThAt K H a c k th) (tp : Tup H (upd H x o)) (ha : a ≠ x) (hc : th.body.isWat = false → c ≠ x) : ThAt K (upd H x o) a c k th := by
  obtain ⟨dx, pv, h1, h2⟩ := y
  refine ⟨dx, pv, by rw [upd_ne ha]; exact h1, ?_⟩
  cases e : th.body with
  | wat s g => rw [e] at h2; exact VR.mono tp h2
  | dic r kvs =>
    rw [e] at h2 hc; obtain ⟨q, vs, h3, h4⟩ := h2
    exact ⟨q, vs, by rw [upd_ne (hc rfl)]; exact h3, KVR.mono tp h4⟩
  | row xs =>
    rw [e] at h2 hc; obtain ⟨q, vs, h3, h4⟩ := h2
    exact ⟨q, vs, by rw [upd_ne (hc rfl)]; exact h3, LVR.mono tp h4⟩
theorem setTh_eq {k : Nat} {x : Th} : (S.setTh k x).th k = x := if_pos rfl
theorem setTh_ne {k j : Nat} {x : Th} (e : j ≠ k) : (S.setTh k x).th j = S.th j := if_neg e
theorem Apart.setTh {k : Nat} {x : Th} (a : Apart S live n t C) (w : x.body.isWat = (S.th k).body.isWat) : Apart (S.setTh k x) live n t C := by
  have q : ∀ j, ((S.setTh k x).th j).body.isWat = (S.th j).body.isWat := fun j => by
    by_cases e : j = k
    · subst e; rw [setTh_eq]; exact w
    · rw [setTh_ne e]
  exact ⟨a.nt, fun j hj hw => a.cn j hj (by rw [← q]; exact hw), fun i hi j hj h1 h2 e => a.cc i hi j hj (by rw [← q]; exact h1) (by rw [← q]; exact h2) e⟩
theorem Owned.setTh {k : Nat} {x : Th} (a : Owned H S live O h n t A C) (w : x.body.isWat = (S.th k).body.isWat) : Owned H (S.setTh k x) live O h n t A C := by
  refine ⟨a.h, a.n, a.t, a.a, fun j hj hw => a.c j hj ?_, a.tr⟩
  by_cases e : j = k
  · subst e; rw [setTh_eq] at hw; rw [← w]; exact hw
  · rw [setTh_ne e] at hw; exact hw
/-- the parts of one thing change -/
theorem HeapX.cell {k : Nat} {o : HO} {x : Th} (X : HeapX K H h S live O dh n t ch A C) (hk : k ∈ live) (w0 : (S.th k).body.isWat = false) (w1 : x.body.isWat = false) (hx : ThAt K (upd H (C k) o) (A k) (C k) k x) :
    HeapX K (upd H (C k) o) h (S.setTh k x) live O dh n t ch A C := by
  obtain ⟨vs, e1, e2, e3, e4, e5, e6, e7⟩ := X
  obtain ⟨o0, c1, c2, c3⟩ := (e5 k hk).cell w0
  have tp : Tup H (upd H (C k) o) := tup_upd (by rw [c1]; intro xs z; cases z; exact c3)
  have nh : h ≠ C k := by rintro z; rw [z, c1] at e1; exact c2 _ _ _ (Option.some.inj e1)
  have so : still o = false := by
    obtain ⟨o1, d1, _, d3⟩ := hx.cell w1
    rw [upd_same] at d1
    cases d1
    exact d3
  refine ⟨vs, by rw [upd_ne nh]; exact e1, by rw [upd_ne (e6.cn k hk w0).1.symm]; exact e2, KVR.mono tp e3, by rw [upd_ne (e6.cn k hk w0).2.symm]; exact e4, fun j hj => ?_, e6.setTh (w1.trans w0.symm), (e7.setTh (w1.trans w0.symm)).heap fun _ => NS.put so⟩
  by_cases e : j = k
  · subst e; rw [setTh_eq]; exact hx
  · rw [setTh_ne e]
    obtain ⟨_, _, _, _, _, _, _, _, _, q1, _⟩ := (e5 j hj).ins
    refine (e5 j hj).off tp ?_ fun wj => e6.cc j hj k hk wj w0 e
    intro z; rw [z, c1] at q1; exact c2 _ _ _ (Option.some.inj q1)
/-- the attributes of one thing change -/
theorem HeapX.inst {k : Nat} {o : HO} {x : Th} (X : HeapX K H h S live O dh n t ch A C) (hk : k ∈ live) (w : x.body.isWat = (S.th k).body.isWat) (hx : ThAt K (upd H (A k) o) (A k) (C k) k x) :
    HeapX K (upd H (A k) o) h (S.setTh k x) live O dh n t ch A C := by
  obtain ⟨vs, e1, e2, e3, e4, e5, e6, e7⟩ := X
  obtain ⟨C0, d0, m0, kd, g0, u0, gl, pn, v0, q1, q2⟩ := (e5 k hk).ins
  have tp : Tup H (upd H (A k) o) := tup_upd (by rw [q1]; intro xs z; cases z; rfl)
  have so : still o = false := by
    obtain ⟨_, _, _, _, _, _, _, _, _, z1, _⟩ := hx.ins
    rw [upd_same] at z1
    cases z1
    rfl
  have nh : h ≠ A k := by
    rintro z; rw [z, q1] at e1
    injection e1 with e1; injection e1 with _ _ e1
    exact thF_ne_heF e1
  have nn : n ≠ A k := by rintro z; rw [z, q1] at e2; cases e2
  have nt : t ≠ A k := by rintro z; rw [z, q1] at e4; cases e4
  refine ⟨vs, by rw [upd_ne nh]; exact e1, by rw [upd_ne nn]; exact e2, KVR.mono tp e3, by rw [upd_ne nt]; exact e4, fun j hj => ?_, e6.setTh w, (e7.setTh w).heap fun _ => NS.put so⟩
  by_cases e : j = k
  · subst e; rw [setTh_eq]; exact hx
  · rw [setTh_ne e]
    obtain ⟨C1, d1, m1, kd1, g1, u1, gl1, pn1, v1, p1, p2⟩ := (e5 j hj).ins
    refine (e5 j hj).off tp ?_ fun wj => ?_
    · intro z; rw [z, q1] at p1
      injection p1 with p1; injection p1 with _ _ p1
      exact e (p2.symm.trans ((thF_inj p1).symm.trans q2))
    · obtain ⟨o1, c1, c2, _⟩ := (e5 j hj).cell wj
      intro z; rw [z, q1] at c1; exact c2 _ _ _ (Option.some.inj c1).symm
/-- the names change -/
theorem HeapX.name {vs' ns : List (Key × V)} (X : HeapX K H h S live O dh n t ch A C) (hr : KVR (upd H n (.dK vs')) vs' ns) : HeapX K (upd H n (.dK vs')) h { S with names := ns } live O dh n t ch A C := by
  obtain ⟨vs, e1, e2, e3, e4, e5, e6, e7⟩ := X
  have tp : Tup H (upd H n (.dK vs')) := tup_upd (by rw [e2]; intro xs z; cases z; rfl)
  have nh : h ≠ n := by rintro z; rw [z, e2] at e1; cases e1
  refine ⟨vs', by rw [upd_ne nh]; exact e1, upd_same, hr, by rw [upd_ne e6.nt.symm]; exact e4, fun j hj => ?_, ⟨e6.nt, e6.cn, e6.cc⟩, ⟨e7.h, e7.n, e7.t, e7.a, e7.c, fun b hb => NS.put rfl (e7.tr b hb)⟩⟩
  obtain ⟨_, _, _, _, _, _, _, _, _, q1, _⟩ := (e5 j hj).ins
  exact (e5 j hj).off tp (by rintro z; rw [z, e2] at q1; cases q1) fun wj => (e6.cn j hj wj).1
/-- what changed last is noted -/
theorem HeapX.change {v : V} (X : HeapX K H h S live O dh n t ch A C) : HeapX K (upd H h (.ins (ga K "Heap") dh (heF n t S.made v))) h S live O dh n t v A C := by
  obtain ⟨vs, e1, e2, e3, e4, e5, e6, e7⟩ := X
  have tp : Tup H (upd H h (.ins (ga K "Heap") dh (heF n t S.made v))) := tup_upd (by rw [e1]; intro xs z; cases z; rfl)
  have nn : n ≠ h := by rintro z; rw [z, e1] at e2; cases e2
  have nt : t ≠ h := by rintro z; rw [z, e1] at e4; cases e4
  refine ⟨vs, upd_same, by rw [upd_ne nn]; exact e2, KVR.mono tp e3, by rw [upd_ne nt]; exact e4, fun j hj => ?_, e6, e7.heap fun _ => NS.put rfl⟩
  obtain ⟨C1, d1, m1, kd1, g1, u1, gl1, pn1, v1, p1, p2⟩ := (e5 j hj).ins
  refine (e5 j hj).off tp ?_ fun wj => ?_
  · intro z; rw [z, e1] at p1
    injection p1 with p1; injection p1 with _ _ p1
    exact thF_ne_heF p1.symm
  · obtain ⟨o1, c1, c2, _⟩ := (e5 j hj).cell wj
    intro z; rw [z, e1] at c1; exact c2 _ _ _ (Option.some.inj c1).symm
theorem HeapX.same {H' : Hp} (s : Same H H') (X : HeapX K H h S live O dh n t ch A C) : HeapX K H' h S live O dh n t ch A C := by
  obtain ⟨vs, e1, e2, e3, e4, e5, e6, e7⟩ := X
  exact ⟨vs, s _ _ e1, s _ _ e2, KVR.mono (Same.tup s) e3, s _ _ e4, fun k hk => (e5 k hk).same s, e6, e7.heap fun _ => NS.same s⟩
def Sta.add (S : Sta) (x : Th) : Sta := { S with made := S.made + 1, th := fun j => if j = S.made then x else S.th j }
def addF {α : Type} (m : Nat) (a : α) (A : Nat → α) : Nat → α := fun j => if j = m then a else A j
theorem addF_eq {α : Type} {m : Nat} {a : α} {A : Nat → α} : addF m a A m = a := if_pos rfl
theorem addF_ne {α : Type} {m j : Nat} {a : α} {A : Nat → α} (h : j ≠ m) : addF m a A j = A j := if_neg h
theorem put_live {A : Nat → Addr} {live : List Nat} {m : Nat} {a : Addr} (h : m ∉ live) :
    putK (live.map fun (k : Nat) => ((.inl (k : Int) : Key), V.ref (A k))) (.inl (m : Int)) (.ref a) = (live ++ [m]).map fun (k : Nat) => ((.inl (k : Int) : Key), V.ref (addF m a A k)) := by
  have e : valV (live.map fun (k : Nat) => ((.inl (k : Int) : Key), V.ref (A k))) (.inl (m : Int)) = none := by
    have q := val_keys (kvs := live.map fun (k : Nat) => ((.inl (k : Int) : Key), V.ref (A k))) (am := live) (by rw [List.map_map]; rfl) m
    rw [decide_eq_false h] at q
    cases z : valV (live.map fun (k : Nat) => ((.inl (k : Int) : Key), V.ref (A k))) (.inl (m : Int)) with
    | none => rfl
    | some v => rw [z] at q; cases q
  rw [putK_new _ e, List.map_append]
  congr 1
  · apply List.map_congr_left
    intro k hk
    rw [addF_ne (by rintro rfl; exact h hk)]
  · show _ = [((.inl (m : Int) : Key), V.ref (addF m a A m))]
    rw [addF_eq]
/-- a thing comes to the others -/
theorem HeapX.add {a c : Addr} {x : Th} (X : HeapX K H h S live O dh n t ch A C) (hm : ∀ k ∈ live, k < S.made) (hx : ThAt K H a c S.made x) (hc : x.body.isWat = false → c ∉ O) (hcs : NS H c) :
    HeapX K (upd (upd H t (.dK (putK (live.map fun (k : Nat) => ((.inl (k : Int) : Key), V.ref (A k))) (.inl (S.made : Int)) (.ref a)))) h (.ins (ga K "Heap") dh (heF n t (S.made + 1) ch))) h (S.add x) (live ++ [S.made]) (a :: c :: O) dh n t ch (addF S.made a A) (addF S.made c C) := by
  obtain ⟨vs, e1, e2, e3, e4, e5, e6, e7⟩ := X
  have nm : S.made ∉ live := fun z => Nat.lt_irrefl _ (hm _ z)
  rw [put_live nm]
  generalize ed : (live ++ [S.made]).map (fun (k : Nat) => ((.inl (k : Int) : Key), V.ref (addF S.made a A k))) = d'
  have nht : h ≠ t := by rintro z; rw [z, e4] at e1; cases e1
  have nhn : h ≠ n := by rintro z; rw [z, e2] at e1; cases e1
  have tp1 : Tup H (upd H t (.dK d')) := tup_upd (by rw [e4]; intro xs z; cases z; rfl)
  have tp2 : Tup (upd H t (.dK d')) (upd (upd H t (.dK d')) h (.ins (ga K "Heap") dh (heF n t (S.made + 1) ch))) := tup_upd (by rw [upd_ne nht, e1]; intro xs z; cases z; rfl)
  have two : ∀ {a c : Addr} {k : Nat} {th : Th}, ThAt K H a c k th → (th.body.isWat = false → c ≠ t) → ThAt K (upd (upd H t (.dK d')) h (.ins (ga K "Heap") dh (heF n t (S.made + 1) ch))) a c k th := fun {a c k th} y hct => by
    obtain ⟨C1, d1, m1, kd1, g1, u1, gl1, pn1, v1, p1, p2⟩ := y.ins
    have nah : a ≠ h := by
      intro z; rw [z, e1] at p1
      injection p1 with p1; injection p1 with _ _ p1
      exact thF_ne_heF p1.symm
    refine (y.off tp1 (by intro z; rw [z, e4] at p1; cases p1) hct).off tp2 nah fun w z => ?_
    obtain ⟨o, q1, q2, _⟩ := y.cell w
    rw [z, e1] at q1
    exact q2 _ _ _ (Option.some.inj q1).symm
  have thm : (S.add x).th S.made = x := if_pos rfl
  have thn : ∀ k ∈ live, (S.add x).th k = S.th k := fun k hk => if_neg (Nat.ne_of_lt (hm k hk))
  have An : ∀ k ∈ live, addF S.made a A k = A k := fun k hk => addF_ne (Nat.ne_of_lt (hm k hk))
  have Cn : ∀ k ∈ live, addF S.made c C k = C k := fun k hk => addF_ne (Nat.ne_of_lt (hm k hk))
  have cs : ∀ k ∈ live ++ [S.made], k ∈ live ∨ k = S.made := fun k hk => (List.mem_append.mp hk).imp_right List.mem_singleton.mp
  refine ⟨vs, upd_same, by rw [upd_ne nhn.symm, upd_ne e6.nt]; exact e2, KVR.mono (tp1.trans tp2) e3, ?_, fun k hk => ?_, ⟨e6.nt, fun k hk hw => ?_, fun i hi j hj h1 h2 ne => ?_⟩, ⟨?_, ?_, ?_, fun k hk => ?_, fun k hk hw => ?_, fun b hb => ?_⟩⟩
  · rw [upd_ne nht.symm, upd_same, ed]
  · rcases cs k hk with q | rfl
    · rw [An k q, Cn k q, thn k q]; exact two (e5 k q) fun w => (e6.cn k q w).2
    · rw [addF_eq, addF_eq, thm]; exact two hx fun w z => hc w (z ▸ e7.t)
  · rcases cs k hk with q | rfl
    · rw [Cn k q]; rw [thn k q] at hw; exact e6.cn k q hw
    · rw [addF_eq]; rw [thm] at hw; exact ⟨fun z => hc hw (z ▸ e7.n), fun z => hc hw (z ▸ e7.t)⟩
  · rcases cs i hi with q | rfl
    · rw [thn i q] at h1
      rw [Cn i q]
      rcases cs j hj with q2 | rfl
      · rw [thn j q2] at h2; rw [Cn j q2]; exact e6.cc i q j q2 h1 h2 ne
      · rw [thm] at h2; rw [addF_eq]; exact fun z => hc h2 (z ▸ e7.c i q h1)
    · rw [thm] at h1
      rw [addF_eq]
      rcases cs j hj with q2 | rfl
      · rw [thn j q2] at h2; rw [Cn j q2]; exact fun z => hc h1 (z ▸ e7.c j q2 h2)
      · exact absurd rfl ne
  · exact List.mem_cons_of_mem _ (List.mem_cons_of_mem _ e7.h)
  · exact List.mem_cons_of_mem _ (List.mem_cons_of_mem _ e7.n)
  · exact List.mem_cons_of_mem _ (List.mem_cons_of_mem _ e7.t)
  · rcases cs k hk with q | rfl
    · rw [An k q]; exact List.mem_cons_of_mem _ (List.mem_cons_of_mem _ (e7.a k q))
    · rw [addF_eq]; exact List.mem_cons_self
  · rcases cs k hk with q | rfl
    · rw [thn k q] at hw; rw [Cn k q]; exact List.mem_cons_of_mem _ (List.mem_cons_of_mem _ (e7.c k q hw))
    · rw [addF_eq]; exact List.mem_cons_of_mem _ List.mem_cons_self
  · refine NS.put rfl (NS.put rfl ?_)
    rcases List.mem_cons.mp hb with rfl | hb
    · obtain ⟨_, _, _, _, _, _, _, _, _, q1, _⟩ := hx.ins
      exact ⟨_, q1, rfl⟩
    · rcases List.mem_cons.mp hb with rfl | hb
      · exact hcs
      · exact e7.tr b hb
theorem BodyAt.off {c x : Addr} {pv : V} {b : Body} {o : HO} (y : BodyAt H c pv b) (tp : Tup H (upd H x o)) (hc : b.isWat = false → c ≠ x) : BodyAt (upd H x o) c pv b := by
  cases b with
  | wat s g => exact VR.mono tp y
  | dic r kvs =>
    obtain ⟨q, vs, h3, h4⟩ := y
    exact ⟨q, vs, by rw [upd_ne (hc rfl)]; exact h3, KVR.mono tp h4⟩
  | row xs =>
    obtain ⟨q, vs, h3, h4⟩ := y
    exact ⟨q, vs, by rw [upd_ne (hc rfl)]; exact h3, LVR.mono tp h4⟩
/-- last deeds come and go -/
theorem ThAt.attr {a c dx : Addr} {pv : V} {k : Nat} {th : Th} (h1 : H a = some (.ins (ga K th.body.cls) dx (thF k th.body.kind (th.last != .no) (th.last == .due) th.goal th.body.part pv))) (h2 : BodyAt H c pv th.body) (x : Th) (eb : x.body = th.body) :
    ThAt K (upd H a (.ins (ga K th.body.cls) dx (thF k th.body.kind (x.last != .no) (x.last == .due) x.goal th.body.part pv))) a c k x := by
  have tp : Tup H (upd H a (.ins (ga K th.body.cls) dx (thF k th.body.kind (x.last != .no) (x.last == .due) x.goal th.body.part pv))) := tup_upd (by rw [h1]; intro xs z; cases z; rfl)
  refine ⟨dx, pv, by rw [upd_same, eb], ?_⟩
  rw [eb]
  refine h2.off tp fun w z => ?_
  obtain ⟨o, q1, q2, _⟩ := (show ThAt K H a c k th from ⟨dx, pv, h1, h2⟩).cell w
  rw [z, h1] at q1
  exact q2 _ _ _ (Option.some.inj q1).symm
/-- a watch becomes blind -/
theorem ThAt.blind {a c dx : Addr} {pv : V} {k : Nat} {th : Th} {s : Nat} {g : Bool} (eb : th.body = .wat s g) (h1 : H a = some (.ins (ga K th.body.cls) dx (thF k th.body.kind (th.last != .no) (th.last == .due) th.goal th.body.part pv))) :
    ThAt K (upd H a (.ins (ga K "Watch") dx (thF k "watch" (th.last != .no) (th.last == .due) th.goal "sees" .non))) a c k { th with body := .wat s true } :=
  ⟨dx, .non, upd_same, rfl⟩
theorem HeapX.congr {S' : Sta} (X : HeapX K H h S live O dh n t ch A C) (hn : S'.names = S.names) (hm : S'.made = S.made) (ht : ∀ k ∈ live, S'.th k = S.th k) : HeapX K H h S' live O dh n t ch A C := by
  obtain ⟨vs, e1, e2, e3, e4, e5, e6, e7⟩ := X
  refine ⟨vs, by rw [hm]; exact e1, e2, by rw [hn]; exact e3, e4, fun k hk => by rw [ht k hk]; exact e5 k hk, ⟨e6.nt, fun k hk w => e6.cn k hk (by rw [← ht k hk]; exact w), fun i hi j hj w1 w2 => e6.cc i hi j hj (by rw [← ht i hi]; exact w1) (by rw [← ht j hj]; exact w2)⟩, ⟨e7.h, e7.n, e7.t, e7.a, fun k hk w => e7.c k hk (by rw [← ht k hk]; exact w), e7.tr⟩⟩
/-- watches are told: those that see none of ks are blind from now on -/
def tellL (ks : List Nat) (x : Th) : Th := match x.body with
  | .wat s g => { x with body := .wat s (g || !decide (s ∈ ks)) }
  | _ => x
def Sta.tell (S : Sta) (ks : List Nat) : Sta := { S with th := fun j => tellL ks (S.th j) }
def Sta.tellP (S : Sta) (ks pre : List Nat) : Sta := { S with th := fun j => if j ∈ pre then tellL ks (S.th j) else S.th j }
theorem tellL_not {ks : List Nat} {x : Th} (h : x.body.isWat = false) : tellL ks x = x := by
  unfold tellL
  cases e : x.body with
  | wat s g => rw [e] at h; cases h
  | _ => rfl
theorem tellL_wat {ks : List Nat} {x : Th} {s : Nat} {g : Bool} (h : x.body = .wat s g) : tellL ks x = { x with body := .wat s (g || !decide (s ∈ ks)) } := by
  unfold tellL; rw [h]
theorem tellP_next {S : Sta} {ks pre : List Nat} {j : Nat} (h : tellL ks (S.th j) = S.th j) (k : Nat) : (S.tellP ks (pre ++ [j])).th k = (S.tellP ks pre).th k := by
  show (if k ∈ pre ++ [j] then _ else _) = if k ∈ pre then _ else _
  by_cases q : k ∈ pre
  · rw [if_pos q, if_pos (List.mem_append_left _ q)]
  · rw [if_neg q]
    by_cases e : k = j
    · subst e; rw [if_pos (by simp), h]
    · rw [if_neg (by simp [q, e])]
end
end WB
/-! Deeds, and what they do to a state. -/
namespace WB
open PySem PySem.Spec PyProof.Rows L2 He
open Classical in
/-- watches told: those that see what is out of reach are blind from now on -/
noncomputable def Sta.tellBy (S : Sta) (R : Nat → Prop) : Sta := { S with th := fun j => match (S.th j).body with
  | .wat s g => { S.th j with body := .wat s (g || !decide (R s)) }
  | _ => S.th j }
theorem Sta.tell_eq {S : Sta} {ks : List Nat} {R : Nat → Prop} (h : ∀ k, k ∈ ks ↔ R k) : S.tell ks = S.tellBy R := by
  unfold Sta.tell Sta.tellBy
  congr 1
  funext j
  unfold tellL
  cases (S.th j).body with
  | wat s g =>
    have e : decide (s ∈ ks) = @decide (R s) (Classical.propDecidable _) := by
      by_cases q : s ∈ ks
      · rw [decide_eq_true q]
        exact (@decide_eq_true _ (Classical.propDecidable _) ((h s).mp q)).symm
      · rw [decide_eq_false q]
        exact (@decide_eq_false _ (Classical.propDecidable _) (fun z => q ((h s).mpr z))).symm
    simp only [e]
  | _ => rfl
def numsS (S : Sta) : List Nat := refs (S.names.map (·.2))
def heldS (S : Sta) : Nat → List Nat := fun j => (S.th j).body.held
def ReachA (S : Sta) : Nat → Prop := Rch (heldS S) (fun _ => True) (numsS S)
def duesA (S : Sta) : List Nat := (List.range S.made).filter fun k => (S.th k).last == .due
def KeptA (S : Sta) : Nat → Prop := Rch (heldS S) (fun _ => True) (numsS S ++ duesA S)
theorem ReachA.kept {S : Sta} {k : Nat} (h : ReachA S k) : KeptA S k := by
  induction h with
  | start h ha => exact .start (List.mem_append_left _ h) ha
  | step _ hk ha ih => exact .step ih hk ha
theorem rch_iff {nx : Nat → List Nat} {am : Nat → Prop} {st : List Nat} (h : ∀ k, Rch nx (fun _ => True) st k → am k) (k : Nat) : Rch nx am st k ↔ Rch nx (fun _ => True) st k := by
  constructor
  · intro r
    induction r with
    | start h ha => exact .start h trivial
    | step _ hk ha ih => exact .step ih hk trivial
  · intro r
    induction r with
    | start h' ha => exact .start h' (h _ (.start h' trivial))
    | step r' hk ha ih => exact .step ih hk (h _ (.step r' hk trivial))
/-- the values of a body -/
def Body.vals : Body → List V
  | .dic _ kvs => kvs.map (·.2)
  | .row xs => xs
  | .wat _ _ => []
/-- a value speaks of what was made -/
def VOk (m : Nat) : V → Prop
  | .ref k => k < m
  | .non => True
  | .int _ => True
  | _ => False
structure Ok (S : Sta) : Prop where
  names : S.names.map (·.1) = nmK
  nv : ∀ p ∈ S.names, VOk S.made p.2
  wf : ∀ k < S.made, (S.th k).body.wf
  bv : ∀ k < S.made, ∀ v ∈ (S.th k).body.vals, VOk S.made v
  wv : ∀ k < S.made, ∀ s g, (S.th k).body = .wat s g → s < S.made ∧ (S.th k).last = .no
  gl : ∀ k < S.made, (S.th k).goal = .non ∨ ∃ x ∈ nmS, (S.th k).goal = .str x
structure Liv (S : Sta) (live : List Nat) : Prop where
  lt : ∀ k ∈ live, k < S.made
  srt : live.Pairwise (· < ·)
  len : live.length ≤ 800
  kept : ∀ k, KeptA S k → k ∈ live
inductive Deed where
  | make (x kind : Str)
  | num (x : Str) (n : Int)
  | copy (x y : Str)
  | drop (x : Str)
  | put (x : Str) (k : Key) (y : Str)
  | take (x y : Str) (k : Key)
  | cut (x : Str) (k : Key)
  | watch (x y : Str)
  | last (x : Str) (g : V)
  | ask (x y : Str)
  | settle
  | say (x : Str)
def Deed.tag : Deed → Nat
  | .make _ _ => 0 | .num _ _ => 1 | .copy _ _ => 2 | .drop _ => 3 | .put _ _ _ => 4 | .take _ _ _ => 5 | .cut _ _ => 6 | .watch _ _ => 7 | .last _ _ => 8 | .ask _ _ => 9 | .settle => 10 | .say _ => 11
def wordsS : List Str := ["make", "num", "copy", "drop", "put", "take", "cut", "watch", "last", "ask", "settle", "say"]
def Deed.word (d : Deed) : Str := wordsS.getD d.tag ""
def Deed.args : Deed → List V
  | .make x kind => [.str x, .str kind]
  | .num x n => [.str x, .int n]
  | .copy x y => [.str x, .str y]
  | .drop x => [.str x]
  | .put x k y => [.str x, kV k, .str y]
  | .take x y k => [.str x, .str y, kV k]
  | .cut x k => [.str x, kV k]
  | .watch x y => [.str x, .str y]
  | .last x g => [.str x, g]
  | .ask x y => [.str x, .str y]
  | .settle => []
  | .say x => [.str x]
/-- a part: a letter, or a number 0 to 9 -/
def PartOk : Key → Prop
  | .inl i => 0 ≤ i ∧ i ≤ 9
  | .inr z => z ∈ lets
def GoalOk (g : V) : Prop := g = .non ∨ ∃ x ∈ nmS, g = .str x
def Deed.ok : Deed → Prop
  | .make x kind => x ∈ nmS ∧ kind ∈ (["record", "row", "book"] : List Str)
  | .num x n => x ∈ nmS ∧ 0 ≤ n ∧ n ≤ 99
  | .copy x y => x ∈ nmS ∧ y ∈ nmS
  | .drop x => x ∈ nmS
  | .put x k y => x ∈ nmS ∧ PartOk k ∧ y ∈ nmS
  | .take x y k => x ∈ nmS ∧ y ∈ nmS ∧ PartOk k
  | .cut x k => x ∈ nmS ∧ PartOk k
  | .watch x y => x ∈ nmS ∧ y ∈ nmS
  | .last x g => x ∈ nmS ∧ GoalOk g
  | .ask x y => x ∈ nmS ∧ y ∈ nmS
  | .settle => True
  | .say x => x ∈ nmS
/-- what a deed tells: a value (or "no"), or a list of numbers -/
inductive Told where
  | val (v : V)
  | lst (ks : List Nat)
def TR (H : Hp) (r : V) : Told → Prop
  | .val (.str z) => r = .str z
  | .val v => VR H r v
  | .lst ks => ∃ l, r = .ref l ∧ H l = some (.lst (nV ks))
/-- a list that is told is new, and nobody's -/
def TF (H0 : Hp) (O : List Addr) (r : V) : Told → Prop
  | .lst _ => ∃ l, r = .ref l ∧ H0 l = none ∧ l ∉ O
  | .val _ => True
def TRF (H0 : Hp) (O : List Addr) (H : Hp) (r : V) (told : Told) : Prop := TR H r told ∧ TF H0 O r told
theorem TRF.back {H0 H1 H : Hp} {O : List Addr} {r : V} {told : Told} (s : Same H0 H1) (t : TRF H1 O H r told) : TRF H0 O H r told := by
  refine ⟨t.1, ?_⟩
  have h := t.2
  cases told with
  | val v => exact trivial
  | lst ks =>
    obtain ⟨l, e, n, o⟩ := h
    exact ⟨l, e, s.free n, o⟩
theorem TRF.backF {H0 H1 H : Hp} {O : List Addr} {r : V} {told : Told} (s : ∀ a, H1 a = none → H0 a = none) (t : TRF H1 O H r told) : TRF H0 O H r told := by
  refine ⟨t.1, ?_⟩
  have h := t.2
  cases told with
  | val v => exact trivial
  | lst ks =>
    obtain ⟨l, e, n, o⟩ := h
    exact ⟨l, e, s l n, o⟩
abbrev Chg := Option (Nat × V × V)
def ChR (H : Hp) (ch : V) : Chg → Prop
  | none => ch = .non
  | some (j, u, v) => ∃ q u' v', ch = .ref q ∧ H q = some (.tup [.int (j : Int), u', v']) ∧ VR H u' u ∧ VR H v' v
def rec0 : List (Key × V) := letK.map fun k => (k, V.non)
def emptyB : Str → Body := fun kind => if kind = "record" then .dic true rec0 else if kind = "row" then .row [] else .dic false []
def performS (S : Sta) (j : Nat) : Sta := match (S.th j).goal with
  | .str x => (S.setTh j ⟨(S.th j).body, .done, (S.th j).goal⟩).setName x (.ref j)
  | _ => S.setTh j ⟨(S.th j).body, .done, (S.th j).goal⟩
open Classical in
/-- those whose last deed is due and that are out of reach, rising -/
noncomputable def turnS (S : Sta) : List Nat := (duesA S).filter fun k => !decide (ReachA S k)
inductive Settle : Sta → List Nat → Sta → Prop
  | done {S : Sta} (h : turnS (S.tellBy (ReachA S)) = []) : Settle S [] (S.tellBy (ReachA S))
  | turn {S S' : Sta} {ks : List Nat} (h : turnS (S.tellBy (ReachA S)) ≠ []) (r : Settle ((turnS (S.tellBy (ReachA S))).foldl performS (S.tellBy (ReachA S))) ks S') : Settle S (turnS (S.tellBy (ReachA S)) ++ ks) S'
theorem Settle.one {S S1 : Sta} {k1 : List Nat} (a : Settle S k1 S1) : ∀ {S2 : Sta} {k2 : List Nat}, Settle S k2 S2 → k1 = k2 ∧ S1 = S2 := by
  induction a with
  | done h =>
    intro S2 k2 b
    cases b with
    | done _ => exact ⟨rfl, rfl⟩
    | turn h' _ => exact absurd h h'
  | turn h r ih =>
    intro S2 k2 b
    cases b with
    | done h' => exact absurd h' h
    | turn _ r' =>
      obtain ⟨e1, e2⟩ := ih r'
      exact ⟨by rw [e1], e2⟩
def noT : Told := .val (.str "no")
/-- what a deed does, but for settle -/
noncomputable def stepF (S : Sta) : Deed → Sta × Told × Chg
  | .make x kind => ((S.add ⟨emptyB kind, .no, .non⟩).setName x (.ref S.made), .val (.ref S.made), none)
  | .num x n => (S.setName x (.int n), .val .non, none)
  | .copy x y => (S.setName x (S.look y), .val .non, none)
  | .drop x => (S.setName x .non, .val .non, none)
  | .put x k y => match S.look x with
    | .ref j => if (S.th j).body.fits k then (S.setTh j { S.th j with body := (S.th j).body.put k (S.look y) }, .val .non, some (j, if (S.th j).body.has k then (S.th j).body.at k else .non, S.look y)) else (S, noT, none)
    | _ => (S, noT, none)
  | .take x y k => match S.look y with
    | .ref j => if (S.th j).body.has k then (S.setName x ((S.th j).body.at k), .val ((S.th j).body.at k), none) else (S, noT, none)
    | _ => (S, noT, none)
  | .cut x k => match S.look x with
    | .ref j => if (S.th j).body.has k then (S.setTh j { S.th j with body := (S.th j).body.cut k }, .val .non, some (j, (S.th j).body.at k, .non)) else (S, noT, none)
    | _ => (S, noT, none)
  | .watch x y => match S.look y with
    | .ref j => ((S.add ⟨.wat j false, .no, .non⟩).setName x (.ref S.made), .val (.ref S.made), none)
    | _ => (S, noT, none)
  | .last x g => match S.look x with
    | .ref j => if (S.th j).body.isWat || (S.th j).last != .no then (S, noT, none) else (S.setTh j ⟨(S.th j).body, .due, g⟩, .val .non, none)
    | _ => (S, noT, none)
  | .ask x y => match S.look y with
    | .ref j => match ((S.tellBy (ReachA S)).th j).body with
      | .wat s g => ((S.tellBy (ReachA S)).setName x (if g then .non else .ref s), .val (if g then .non else .ref s), none)
      | _ => (S, noT, none)
    | _ => (S, noT, none)
  | .settle => (S, noT, none)
  | .say x => (S, .val (S.look x), none)
inductive StepR : Sta → Deed → Sta → Told → Chg → Prop
  | settle {S S' : Sta} {ks : List Nat} (h : Settle S ks S') : StepR S .settle S' (.lst ks) none
  | other {S : Sta} {d : Deed} (h : d.tag ≠ 10) : StepR S d (stepF S d).1 (stepF S d).2.1 (stepF S d).2.2
theorem StepR.one {S S1 S2 : Sta} {d : Deed} {t1 t2 : Told} {c1 c2 : Chg} (a : StepR S d S1 t1 c1) (b : StepR S d S2 t2 c2) : S1 = S2 ∧ t1 = t2 ∧ c1 = c2 := by
  cases a with
  | settle h =>
    cases b with
    | settle h' => obtain ⟨e1, e2⟩ := h.one h'; exact ⟨e2, by rw [e1], rfl⟩
    | other h' => exact absurd rfl h'
  | other h =>
    cases b with
    | settle h' => exact absurd rfl h
    | other h' => exact ⟨rfl, rfl, rfl⟩
section
variable {S : Sta} {x y : Str} {k : Key} {g : V} {j : Nat}
theorem put_no (e : ∀ j, S.look x ≠ .ref j) : stepF S (.put x k y) = (S, noT, none) := by
  show (match S.look x with | .ref j => _ | _ => _) = _
  cases q : S.look x <;> first | rfl | exact absurd q (e _)
theorem put_no' (e : S.look x = .ref j) (h : (S.th j).body.fits k = false) : stepF S (.put x k y) = (S, noT, none) := by
  show (match S.look x with | .ref j => _ | _ => _) = _
  rw [e]
  show (if (S.th j).body.fits k = true then _ else _) = _
  rw [h]; rfl
theorem put_yes (e : S.look x = .ref j) (h : (S.th j).body.fits k = true) : stepF S (.put x k y) = (S.setTh j { S.th j with body := (S.th j).body.put k (S.look y) }, .val .non, some (j, if (S.th j).body.has k then (S.th j).body.at k else .non, S.look y)) := by
  show (match S.look x with | .ref j => _ | _ => _) = _
  rw [e]
  show (if (S.th j).body.fits k = true then _ else _) = _
  rw [h]; rfl
theorem take_no (e : ∀ j, S.look y ≠ .ref j) : stepF S (.take x y k) = (S, noT, none) := by
  show (match S.look y with | .ref j => _ | _ => _) = _
  cases q : S.look y <;> first | rfl | exact absurd q (e _)
theorem take_no' (e : S.look y = .ref j) (h : (S.th j).body.has k = false) : stepF S (.take x y k) = (S, noT, none) := by
  show (match S.look y with | .ref j => _ | _ => _) = _
  rw [e]
  show (if (S.th j).body.has k = true then _ else _) = _
  rw [h]; rfl
theorem take_yes (e : S.look y = .ref j) (h : (S.th j).body.has k = true) : stepF S (.take x y k) = (S.setName x ((S.th j).body.at k), .val ((S.th j).body.at k), none) := by
  show (match S.look y with | .ref j => _ | _ => _) = _
  rw [e]
  show (if (S.th j).body.has k = true then _ else _) = _
  rw [h]; rfl
theorem cut_no (e : ∀ j, S.look x ≠ .ref j) : stepF S (.cut x k) = (S, noT, none) := by
  show (match S.look x with | .ref j => _ | _ => _) = _
  cases q : S.look x <;> first | rfl | exact absurd q (e _)
theorem cut_no' (e : S.look x = .ref j) (h : (S.th j).body.has k = false) : stepF S (.cut x k) = (S, noT, none) := by
  show (match S.look x with | .ref j => _ | _ => _) = _
  rw [e]
  show (if (S.th j).body.has k = true then _ else _) = _
  rw [h]; rfl
theorem cut_yes (e : S.look x = .ref j) (h : (S.th j).body.has k = true) : stepF S (.cut x k) = (S.setTh j { S.th j with body := (S.th j).body.cut k }, .val .non, some (j, (S.th j).body.at k, .non)) := by
  show (match S.look x with | .ref j => _ | _ => _) = _
  rw [e]
  show (if (S.th j).body.has k = true then _ else _) = _
  rw [h]; rfl
theorem watch_no (e : ∀ j, S.look y ≠ .ref j) : stepF S (.watch x y) = (S, noT, none) := by
  show (match S.look y with | .ref j => _ | _ => _) = _
  cases q : S.look y <;> first | rfl | exact absurd q (e _)
theorem watch_yes (e : S.look y = .ref j) : stepF S (.watch x y) = ((S.add ⟨.wat j false, .no, .non⟩).setName x (.ref S.made), .val (.ref S.made), none) := by
  show (match S.look y with | .ref j => _ | _ => _) = _
  rw [e]
theorem last_no (e : ∀ j, S.look x ≠ .ref j) : stepF S (.last x g) = (S, noT, none) := by
  show (match S.look x with | .ref j => _ | _ => _) = _
  cases q : S.look x <;> first | rfl | exact absurd q (e _)
theorem last_no' (e : S.look x = .ref j) (h : ((S.th j).body.isWat || (S.th j).last != .no) = true) : stepF S (.last x g) = (S, noT, none) := by
  show (match S.look x with | .ref j => _ | _ => _) = _
  rw [e]
  show (if ((S.th j).body.isWat || (S.th j).last != .no) = true then _ else _) = _
  rw [h]; rfl
theorem last_yes (e : S.look x = .ref j) (h : ((S.th j).body.isWat || (S.th j).last != .no) = false) : stepF S (.last x g) = (S.setTh j ⟨(S.th j).body, .due, g⟩, .val .non, none) := by
  show (match S.look x with | .ref j => _ | _ => _) = _
  rw [e]
  show (if ((S.th j).body.isWat || (S.th j).last != .no) = true then _ else _) = _
  rw [h]; rfl
theorem ask_no (e : ∀ j, S.look y ≠ .ref j) : stepF S (.ask x y) = (S, noT, none) := by
  show (match S.look y with | .ref j => _ | _ => _) = _
  cases q : S.look y <;> first | rfl | exact absurd q (e _)
theorem ask_no' (e : S.look y = .ref j) (h : ((S.tellBy (ReachA S)).th j).body.isWat = false) : stepF S (.ask x y) = (S, noT, none) := by
  show (match S.look y with | .ref j => _ | _ => _) = _
  rw [e]
  show (match ((S.tellBy (ReachA S)).th j).body with | .wat s g => _ | _ => _) = _
  cases q : ((S.tellBy (ReachA S)).th j).body <;> first | rfl | (rw [q] at h; cases h)
theorem ask_yes {s : Nat} {b : Bool} (e : S.look y = .ref j) (h : ((S.tellBy (ReachA S)).th j).body = .wat s b) : stepF S (.ask x y) = ((S.tellBy (ReachA S)).setName x (if b then .non else .ref s), .val (if b then .non else .ref s), none) := by
  show (match S.look y with | .ref j => _ | _ => _) = _
  rw [e]
  show (match ((S.tellBy (ReachA S)).th j).body with | .wat s g => _ | _ => _) = _
  rw [h]
theorem StepR.by {d : Deed} {r : Sta × Told × Chg} (h : d.tag ≠ 10) (e : stepF S d = r) : StepR S d r.1 r.2.1 r.2.2 := e ▸ StepR.other h
end
end WB
namespace WK
open PySem PySem.Spec PyProof.Rows L2 He WB
section
variable {P : Program} {w : World} {K : PySem.W.Frag} {mg : Str → Option Value} {base : Heap}
def spAsValue : Sp := fun vs H Q _ => ∃ n : Nat, vs = [.int (n : Int)] ∧ ∀ p H', Same H H' → H p = none → H' p = some (.tup [.str "thing", .int (n : Int)]) → Q (.ref p) H'
theorem ok_as_value (T : Tx w K mg) : DefOk ⟨P, w, K, mg, base⟩ 1 (ga K "as_value") ["number"] spAsValue := by
  refine DefOk.mk' (f_as_value T) sc_as_value (fun _ _ _ _ _ _ us hl => match us, hl with | [_], _ => rfl) (fun vs H Q E h => ?_) (fun cdv A outer s H vs Q E hr h => ?_)
  · obtain ⟨n, rfl, _⟩ := h
    rfl
  · obtain ⟨n, rfl, k⟩ := h
    refine ⟨_, pss_one (ps_ret (pe_tup (pa_cons pe_str (pa_cons (pv 0) pa_nil)))), ?_⟩
    exact ⟨_, rfl, by show 2 ≤ sizeLine; decide, fun p hp => k p _ (same_new hp) hp upd_same⟩
def spIsThing : Sp := fun vs H Q _ => ∃ v x : V, vs = [v] ∧ VR H v x ∧ Q (.bl (match x with | .ref _ => true | _ => false)) H
theorem ok_is_thing (T : Tx w K mg) : DefOk ⟨P, w, K, mg, base⟩ 1 (ga K "is_thing") ["value"] spIsThing := by
  refine DefOk.mk' (f_is_thing T) sc_is_thing (fun _ _ _ _ _ _ us hl => match us, hl with | [_], _ => rfl) (fun vs H Q E h => ?_) (fun cdv A outer s H vs Q E hr h => ?_)
  · obtain ⟨v, x, rfl, _⟩ := h
    rfl
  · obtain ⟨v, x, rfl, r, k⟩ := h
    refine ⟨_, pss_one (ps_ret (pe_callB call_isi (by rfl) (z_isinstance T) (by decide +kernel) (pa_cons (pv 0) (pa_cons (pe_bltn (v := .ty "tuple") (by rfl) (z_tuple T) (by decide +kernel) rfl) pa_nil)))), ?_⟩
    rcases r.cases with ⟨rfl, rfl⟩ | ⟨i, rfl, rfl⟩ | ⟨a, n, rfl, rfl, e⟩
    · exact ⟨_, rfl, _, _, _, _, _, rfl, .ty _, .base .non, kit_ty (r := false) (by decide +kernel), k⟩
    · exact ⟨_, rfl, _, _, _, _, _, rfl, .ty _, .base (.int i), kit_ty (r := false) (by decide +kernel), k⟩
    · exact ⟨_, rfl, _, _, _, _, _, rfl, .ty _, .base (.tup e), kit_ty (r := true) (by decide +kernel), k⟩
end
end WK
namespace WK
open PySem PySem.Spec PyProof.Rows L2 He WB
section
variable {P : Program} {w : World} {K : PySem.W.Frag} {mg : Str → Option Value} {base : Heap}
theorem b_cls (T : Tx w K mg) : (b : Body) → Cls K (ga K b.cls)
  | .dic true _ => c_Record T
  | .dic false _ => c_Book T
  | .row _ => c_Row T
  | .wat _ _ => c_Watch T
theorem b_number (T : Tx w K mg) : (b : Body) → NoAttr K (ga K b.cls) "number"
  | .dic true _ => n_Record_number T
  | .dic false _ => n_Book_number T
  | .row _ => n_Row_number T
  | .wat _ _ => n_Watch_number T
theorem b_kind (T : Tx w K mg) : (b : Body) → NoAttr K (ga K b.cls) "kind"
  | .dic true _ => n_Record_kind T
  | .dic false _ => n_Book_kind T
  | .row _ => n_Row_kind T
  | .wat _ _ => n_Watch_kind T
theorem b_got_last (T : Tx w K mg) : (b : Body) → NoAttr K (ga K b.cls) "got_last"
  | .dic true _ => n_Record_got_last T
  | .dic false _ => n_Book_got_last T
  | .row _ => n_Row_got_last T
  | .wat _ _ => n_Watch_got_last T
theorem b_due (T : Tx w K mg) : (b : Body) → NoAttr K (ga K b.cls) "due"
  | .dic true _ => n_Record_due T
  | .dic false _ => n_Book_due T
  | .row _ => n_Row_due T
  | .wat _ _ => n_Watch_due T
theorem b_goal (T : Tx w K mg) : (b : Body) → NoAttr K (ga K b.cls) "goal"
  | .dic true _ => n_Record_goal T
  | .dic false _ => n_Book_goal T
  | .row _ => n_Row_goal T
  | .wat _ _ => n_Watch_goal T
theorem bt_has (T : Tx w K mg) : (b : Body) → Meth K (ga K b.cls) "has" (ma K (ga K b.cls) "has")
  | .dic true _ => t_Record_has T
  | .dic false _ => t_Book_has T
  | .row _ => t_Row_has T
  | .wat _ _ => t_Watch_has T
theorem bt_fits (T : Tx w K mg) : (b : Body) → Meth K (ga K b.cls) "fits" (ma K (ga K b.cls) "fits")
  | .dic true _ => t_Record_fits T
  | .dic false _ => t_Book_fits T
  | .row _ => t_Row_fits T
  | .wat _ _ => t_Watch_fits T
theorem bt_held (T : Tx w K mg) : (b : Body) → Meth K (ga K b.cls) "held" (ma K (ga K b.cls) "held")
  | .dic true _ => t_Record_held T
  | .dic false _ => t_Book_held T
  | .row _ => t_Row_held T
  | .wat _ _ => t_Watch_held T
theorem bt_shown (T : Tx w K mg) : (b : Body) → Meth K (ga K b.cls) "shown" (ma K (ga K b.cls) "shown")
  | .dic true _ => t_Record_shown T
  | .dic false _ => t_Book_shown T
  | .row _ => t_Row_shown T
  | .wat _ _ => t_Watch_shown T
theorem bt_size (T : Tx w K mg) : (b : Body) → Meth K (ga K b.cls) "size" (ma K (ga K b.cls) "size")
  | .dic true _ => t_Record_size T
  | .dic false _ => t_Book_size T
  | .row _ => t_Row_size T
  | .wat _ _ => t_Watch_size T
theorem bt_at (T : Tx w K mg) : (b : Body) → (∀ s g, b ≠ .wat s g) → Meth K (ga K b.cls) "at" (ma K (ga K b.cls) "at")
  | .dic true _, _ => t_Record_at T
  | .dic false _, _ => t_Book_at T
  | .row _, _ => t_Row_at T
  | .wat _ _, h => absurd rfl (h _ _)
theorem bt_put (T : Tx w K mg) : (b : Body) → (∀ s g, b ≠ .wat s g) → Meth K (ga K b.cls) "put" (ma K (ga K b.cls) "put")
  | .dic true _, _ => t_Record_put T
  | .dic false _, _ => t_Book_put T
  | .row _, _ => t_Row_put T
  | .wat _ _, h => absurd rfl (h _ _)
theorem bt_cut (T : Tx w K mg) : (b : Body) → (∀ s g, b ≠ .wat s g) → Meth K (ga K b.cls) "cut" (ma K (ga K b.cls) "cut")
  | .dic true _, _ => t_Record_cut T
  | .dic false _, _ => t_Book_cut T
  | .row _, _ => t_Row_cut T
  | .wat _ _, h => absurd rfl (h _ _)
theorem b_cells (T : Tx w K mg) : (b : Body) → (∀ s g, b ≠ .wat s g) → NoAttr K (ga K b.cls) "cells"
  | .dic true _, _ => n_Record_cells T
  | .dic false _, _ => n_Book_cells T
  | .row _, _ => n_Row_cells T
  | .wat _ _, h => absurd rfl (h _ _)
theorem small6 {n : Nat} (h : n ≤ 20) : n < 1000 := by omega
/-- Thing.__init__ -/
def spThingInit (K : PySem.W.Frag) : Sp := fun vs H Q _ => ∃ (a dx : Addr) (b : Body) (n : Nat), vs = [.ref a, .int (n : Int), .str b.kind] ∧ H a = some (.ins (ga K b.cls) dx []) ∧
  Q .non (upd H a (.ins (ga K b.cls) dx [("number", .int (n : Int)), ("kind", .str b.kind), ("got_last", .bl false), ("due", .bl false), ("goal", .non)]))
theorem put5 {n : Int} {k : Str} : putF "goal" .non (putF "due" (.bl false) (putF "got_last" (.bl false) (putF "kind" (.str k) (putF "number" (.int n) [])))) =
  ([("number", .int n), ("kind", .str k), ("got_last", .bl false), ("due", .bl false), ("goal", .non)] : List (Str × V)) := by kernel_rfl
theorem ok_Thing_init (T : Tx w K mg) : DefOk ⟨P, w, K, mg, base⟩ 1 (ma K (ga K "Thing") "__init__") ["self", "number", "kind"] (spThingInit K) := by
  refine DefOk.mk' (f_Thing_init T) sc_Thing_init (fun _ _ _ _ _ _ us hl => match us, hl with | [_, _, _], _ => rfl) (fun vs H Q E h => ?_) (fun cdv A outer s H vs Q E hr h => ?_)
  · obtain ⟨a, dx, b, n, rfl, _⟩ := h
    rfl
  · obtain ⟨a, dx, b, n, rfl, hp, k⟩ := h
    have hu := hu_of hr
    refine ⟨_, (pss_cons (ps_fld (pv 0) (pv 1) rfl) (pss_cons (ps_fld (pv 0) (pv 2) rfl) (pss_cons (ps_fld (pv 0) pe_bl rfl) (pss_cons (ps_fld (pv 0) pe_bl rfl) (pss_one (ps_fld (pv 0) pe_non rfl)))))), ?_⟩
    refine ⟨_, rfl, _, rfl, a, _, dx, _, rfl, hp, b_cls T b, b_number T b, by decide, ?_⟩
    refine ⟨_, rfl, _, rfl, a, _, dx, _, rfl, upd_same, b_cls T b, b_kind T b, by show 1 < 1000; decide, ?_⟩
    refine ⟨_, rfl, a, _, dx, _, rfl, upd_same, b_cls T b, b_got_last T b, by show 2 < 1000; decide, ?_⟩
    refine ⟨_, rfl, a, _, dx, _, rfl, upd_same, b_cls T b, b_due T b, by show 3 < 1000; decide, ?_⟩
    refine ⟨_, rfl, a, _, dx, _, rfl, upd_same, b_cls T b, b_goal T b, by show 4 < 1000; decide, ?_⟩
    rw [upd_upd, upd_upd, upd_upd, upd_upd]
    show Q .non (upd H a (.ins _ dx (putF "goal" .non (putF "due" (.bl false) (putF "got_last" (.bl false) (putF "kind" (.str b.kind) (putF "number" (.int n) [])))))))
    rw [put5]
    exact k
end
end WK
namespace WK
open PySem PySem.Spec PyProof.Rows L2 He WB
section
variable {P : Program} {w : World} {K : PySem.W.Frag} {mg : Str → Option Value} {base : Heap}
theorem put6 {n : Int} {k pn : Str} {v : V} (h : pn = "cells" ∨ pn = "sees") : putF pn v ([("number", .int n), ("kind", .str k), ("got_last", .bl false), ("due", .bl false), ("goal", .non)] : List (Str × V)) =
  ([("number", .int n), ("kind", .str k), ("got_last", .bl false), ("due", .bl false), ("goal", .non), (pn, v)] : List (Str × V)) := by
  rcases h with rfl | rfl
  · kernel_rfl
  · kernel_rfl
/-- Holder.__init__ -/
def spHolderInit (K : PySem.W.Frag) : Sp := fun vs H Q _ => ∃ (a dx : Addr) (b : Body) (n : Nat) (c : V), vs = [.ref a, .int (n : Int), .str b.kind, c] ∧ (∀ s g, b ≠ .wat s g) ∧ H a = some (.ins (ga K b.cls) dx []) ∧
  Q .non (upd H a (.ins (ga K b.cls) dx (thF n b.kind false false .non "cells" c)))
theorem ok_Holder_init (T : Tx w K mg) : DefOk ⟨P, w, K, mg, base⟩ 2 (ma K (ga K "Holder") "__init__") ["self", "number", "kind", "cells"] (spHolderInit K) := by
  refine DefOk.mk' (f_Holder_init T) sc_Holder_init (fun _ _ _ _ _ _ us hl => match us, hl with | [_, _, _, _], _ => rfl) (fun vs H Q E h => ?_) (fun cdv A outer s H vs Q E hr h => ?_)
  · obtain ⟨a, dx, b, n, c, rfl, _⟩ := h
    rfl
  · obtain ⟨a, dx, b, n, c, rfl, hb, hp, k⟩ := h
    have hu := hu_of hr
    refine ⟨_, (pss_cons (ps_expr (pe_cf (M := ⟨P, w, K, mg, base⟩) rfl hr rfl (pa_cons (pv 0) (pa_cons (pv 1) (pa_cons (pv 2) pa_nil))))) (pss_one (ps_fld (pv 0) (pv 3) rfl))), ?_⟩
    refine ⟨_, _, _, g_Thing T, x_cfun_Thing T, ok_Thing_init T, by decide, _, rfl, _, rfl, _, rfl, a, dx, b, n, rfl, hp, ?_⟩
    refine ⟨_, rfl, _, rfl, a, _, dx, _, rfl, upd_same, b_cls T b, b_cells T b hb, by show 5 < 1000; decide, ?_⟩
    rw [upd_upd, put6 (.inl rfl)]
    exact k
/-- new ones, of each kind: the instance is filled, its parts are new -/
def spNewInit (K : PySem.W.Frag) (b : Body) (o : HO) : Sp := fun vs H Q _ => ∃ (a dx : Addr) (n : Nat), vs = [.ref a, .int (n : Int)] ∧ H a = some (.ins (ga K b.cls) dx []) ∧
  ∀ c H', H c = none → Same H H' → H' c = some o → Q .non (upd H' a (.ins (ga K b.cls) dx (thF n b.kind false false .non "cells" (.ref c))))
theorem ok_Row_init (T : Tx w K mg) : DefOk ⟨P, w, K, mg, base⟩ 3 (ma K (ga K "Row") "__init__") ["self", "number"] (spNewInit K (.row []) (.lst [])) := by
  refine DefOk.mk' (f_Row_init T) sc_Row_init (fun _ _ _ _ _ _ us hl => match us, hl with | [_, _], _ => rfl) (fun vs H Q E h => ?_) (fun cdv A outer s H vs Q E hr h => ?_)
  · obtain ⟨a, dx, n, rfl, _⟩ := h
    rfl
  · obtain ⟨a, dx, n, rfl, hp, k⟩ := h
    have hu := hu_of hr
    refine ⟨_, (pss_one (ps_expr (pe_cf (M := ⟨P, w, K, mg, base⟩) rfl hr rfl (pa_cons (pv 0) (pa_cons (pv 1) (pa_cons pe_str (pa_cons (pe_lst pa_nil) pa_nil))))))), ?_⟩
    refine ⟨_, _, _, g_Holder T, x_cfun_Holder T, ok_Holder_init T, by decide, _, rfl, _, rfl, Nat.zero_le _, fun c hc => ?_⟩
    have nac : a ≠ c := ne_of_none hp hc
    refine ⟨a, dx, .row [], n, _, rfl, (fun s g z => by cases z), (by rw [upd_ne nac]; exact hp), ?_⟩
    exact k c _ hc (same_new hc) upd_same
theorem ok_Book_init (T : Tx w K mg) : DefOk ⟨P, w, K, mg, base⟩ 3 (ma K (ga K "Book") "__init__") ["self", "number"] (spNewInit K (.dic false []) (.dK [])) := by
  refine DefOk.mk' (f_Book_init T) sc_Book_init (fun _ _ _ _ _ _ us hl => match us, hl with | [_, _], _ => rfl) (fun vs H Q E h => ?_) (fun cdv A outer s H vs Q E hr h => ?_)
  · obtain ⟨a, dx, n, rfl, _⟩ := h
    rfl
  · obtain ⟨a, dx, n, rfl, hp, k⟩ := h
    have hu := hu_of hr
    refine ⟨_, (pss_one (ps_expr (pe_cf (M := ⟨P, w, K, mg, base⟩) rfl hr rfl (pa_cons (pv 0) (pa_cons (pv 1) (pa_cons pe_str (pa_cons pe_dnewK pa_nil))))))), ?_⟩
    refine ⟨_, _, _, g_Holder T, x_cfun_Holder T, ok_Holder_init T, by decide, _, rfl, _, rfl, fun c hc => ?_⟩
    have nac : a ≠ c := ne_of_none hp hc
    refine ⟨a, dx, .dic false [], n, _, rfl, (fun s g z => by cases z), (by rw [upd_ne nac]; exact hp), ?_⟩
    exact k c _ hc (same_new hc) upd_same
theorem ok_Record_init (T : Tx w K mg) : DefOk ⟨P, w, K, mg, base⟩ 3 (ma K (ga K "Record") "__init__") ["self", "number"] (spNewInit K (.dic true rec0) (.dK rec0)) := by
  refine DefOk.mk' (f_Record_init T) sc_Record_init (fun _ _ _ _ _ _ us hl => match us, hl with | [_, _], _ => rfl) (fun vs H Q E h => ?_) (fun cdv A outer s H vs Q E hr h => ?_)
  · obtain ⟨a, dx, n, rfl, _⟩ := h
    rfl
  · obtain ⟨a, dx, n, rfl, hp, k⟩ := h
    have hu := hu_of hr
    refine ⟨_, (pss_one (ps_expr (pe_cf (M := ⟨P, w, K, mg, base⟩) rfl hr rfl (pa_cons (pv 0) (pa_cons (pv 1) (pa_cons pe_str (pa_cons (pe_dc (own := [("letter", 2)]) (g := (gName 2)) rfl sc_Record_init.nd (pi_tup (pe_glob (v := .ref (ga K "LETTERS")) rfl (g_LETTERS T) rfl)) (blkOk_by (own := [("letter", 2)]) (N := ["self", "number", "letter"]) (sc := defScope s_Record_init) (by decide +kernel)) (fun _ _ _ _ _ => (pg_name (i := 2) sc_Record_init.nd rfl (Or.inl rfl))) (fun _ _ _ _ _ => by exact pts_nil) (fun _ _ _ _ _ => by exact (pv 2)) (fun _ _ _ _ _ => by exact pe_non)) pa_nil))))))), ?_⟩
    have hL : ∀ H', SqT K H' (ga K "LETTERS") ((["a", "b", "c", "d"] : List Str).map V.str) := fun H' => strsB_ok (x_tup_LETTERS T) H'
    refine ⟨_, _, _, g_Holder T, x_cfun_Holder T, ok_Holder_init T, by decide, _, rfl, _, rfl, _, rfl, ⟨_, hL _⟩, fun c hc => ?_⟩
    have nac : a ≠ c := ne_of_none hp hc
    refine dc_tup (K := K) (a := ga K "LETTERS") (fun i H' => Same H H' ∧ H' c = some (.dK (rec0.take i))) ⟨same_new hc, upd_same⟩ (fun i H' _ _ => hL H') ?_ ?_
    · rintro i x H' hi ⟨s1, h1⟩
      have go : ∀ (l : Str), x = .str l → putK (rec0.take i) (.inr l) .non = rec0.take (i + 1) → (rec0.take i).length < sizeLine → ∃ kvs k, x = kV k ∧ H' c = some (.dK kvs) ∧ kvs.length < sizeLine ∧
          (Same H (upd H' c (.dK (putK kvs k .non))) ∧ upd H' c (.dK (putK kvs k .non)) c = some (.dK (rec0.take (i + 1)))) := fun l e1 e2 e3 =>
        ⟨_, .inr l, e1, h1, e3, same_mut s1 hc, by rw [e2]; exact upd_same⟩
      refine ⟨rfl, ?_⟩
      refine ⟨_, rfl, ?_⟩
      match i, hi with
      | 0, hi => exact go "a" (Option.some.inj hi).symm (by kernel_rfl) (by decide)
      | 1, hi => exact go "b" (Option.some.inj hi).symm (by kernel_rfl) (by decide)
      | 2, hi => exact go "c" (Option.some.inj hi).symm (by kernel_rfl) (by decide)
      | 3, hi => exact go "d" (Option.some.inj hi).symm (by kernel_rfl) (by decide)
      | i + 4, hi => exact absurd hi (by intro z; cases z)
    · rintro H' ⟨s1, h1⟩
      refine ⟨a, dx, .dic true rec0, n, _, rfl, (fun s g z => by cases z), s1 _ _ hp, ?_⟩
      exact k c _ hc s1 h1
def spWatchInit (K : PySem.W.Frag) : Sp := fun vs H Q _ => ∃ (a dx : Addr) (n : Nat) (v : V), vs = [.ref a, .int (n : Int), v] ∧ H a = some (.ins (ga K "Watch") dx []) ∧
  Q .non (upd H a (.ins (ga K "Watch") dx (thF n "watch" false false .non "sees" v)))
theorem ok_Watch_init (T : Tx w K mg) : DefOk ⟨P, w, K, mg, base⟩ 2 (ma K (ga K "Watch") "__init__") ["self", "number", "sees"] (spWatchInit K) := by
  refine DefOk.mk' (f_Watch_init T) sc_Watch_init (fun _ _ _ _ _ _ us hl => match us, hl with | [_, _, _], _ => rfl) (fun vs H Q E h => ?_) (fun cdv A outer s H vs Q E hr h => ?_)
  · obtain ⟨a, dx, n, v, rfl, _⟩ := h
    rfl
  · obtain ⟨a, dx, n, v, rfl, hp, k⟩ := h
    have hu := hu_of hr
    refine ⟨_, (pss_cons (ps_expr (pe_cf (M := ⟨P, w, K, mg, base⟩) rfl hr rfl (pa_cons (pv 0) (pa_cons (pv 1) (pa_cons pe_str pa_nil))))) (pss_one (ps_fld (pv 0) (pv 2) rfl))), ?_⟩
    refine ⟨_, _, _, g_Thing T, x_cfun_Thing T, ok_Thing_init T, by decide, _, rfl, _, rfl, a, dx, .wat 0 false, n, rfl, hp, ?_⟩
    refine ⟨_, rfl, _, rfl, a, _, dx, _, rfl, upd_same, c_Watch T, n_Watch_sees T, by show 5 < 1000; decide, ?_⟩
    rw [upd_upd]
    show Q .non (upd H a (.ins _ dx (putF "sees" v [("number", .int (n : Int)), ("kind", .str "watch"), ("got_last", .bl false), ("due", .bl false), ("goal", .non)])))
    rw [put6 (.inr rfl)]
    exact k
end
end WK
namespace WK
open PySem PySem.Spec PyProof.Rows L2 He WB
section
variable {P : Program} {w : World} {K : PySem.W.Frag} {mg : Str → Option Value} {base : Heap}
theorem LVR.length {H : Hp} {xs ys : List V} (h : LVR H xs ys) : xs.length = ys.length := Paired.length h
theorem KVR.length {H : Hp} {xs ys : List (Key × V)} (h : KVR H xs ys) : xs.length = ys.length := Paired.length h
theorem szl {n : Nat} (h : n ≤ 1000) : n < sizeLine := Nat.lt_of_le_of_lt h (by decide)
theorem szle {n : Nat} (h : n ≤ 1000) : n ≤ sizeLine := Nat.le_of_lt (szl h)
/-- has -/
def spHas (K : PySem.W.Frag) (p : Body → Bool) : Sp := fun vs H Q _ => ∃ (a c : Addr) (n : Nat) (t : Th) (k : Key), vs = [.ref a, kV k] ∧ p t.body = true ∧ ThAt K H a c n t ∧ ∀ H', Same H H' → Q (.bl (t.body.has k)) H'
def spFits (K : PySem.W.Frag) (p : Body → Bool) : Sp := fun vs H Q _ => ∃ (a c : Addr) (n : Nat) (t : Th) (k : Key), vs = [.ref a, kV k] ∧ p t.body = true ∧ ThAt K H a c n t ∧ ∀ H', Same H H' → Q (.bl (t.body.fits k)) H'
theorem ok_Thing_has {f : Addr} (T : Tx w K mg) (F : ∃ fd, FunD K "has" "Thing.has" (defArgs s_Thing_has) (defBody s_Thing_has) (defScope s_Thing_has) [] [] f fd)  : DefOk ⟨P, w, K, mg, base⟩ 1 f ["self", "part"] (spHas K Body.isWat) := by
  refine DefOk.mk' F sc_Thing_has (fun _ _ _ _ _ _ us hl => match us, hl with | [_, _], _ => rfl) (fun vs H Q E h => ?_) (fun cdv A outer s H vs Q E hr h => ?_)
  · obtain ⟨a, c, n, t, y, rfl, _⟩ := h
    rfl
  · obtain ⟨a, c, n, t, y, rfl, hb, ht, k⟩ := h
    have hu := hu_of hr
    refine ⟨_, (pss_one (ps_ret pe_bl)), ?_⟩
    obtain ⟨b, l, g⟩ := t
    cases b <;> try cases hb
    exact k H (Same.refl H)
theorem ok_Thing_fits {f : Addr} (T : Tx w K mg) (F : ∃ fd, FunD K "fits" "Thing.fits" (defArgs s_Thing_fits) (defBody s_Thing_fits) (defScope s_Thing_fits) [] [] f fd)  : DefOk ⟨P, w, K, mg, base⟩ 1 f ["self", "part"] (spFits K Body.isWat) := by
  refine DefOk.mk' F sc_Thing_fits (fun _ _ _ _ _ _ us hl => match us, hl with | [_, _], _ => rfl) (fun vs H Q E h => ?_) (fun cdv A outer s H vs Q E hr h => ?_)
  · obtain ⟨a, c, n, t, y, rfl, _⟩ := h
    rfl
  · obtain ⟨a, c, n, t, y, rfl, hb, ht, k⟩ := h
    have hu := hu_of hr
    refine ⟨_, (pss_one (ps_ret pe_bl)), ?_⟩
    obtain ⟨b, l, g⟩ := t
    cases b <;> try cases hb
    exact k H (Same.refl H)
theorem ok_Holder_has {f : Addr} (T : Tx w K mg) (F : ∃ fd, FunD K "has" "Holder.has" (defArgs s_Holder_has) (defBody s_Holder_has) (defScope s_Holder_has) [] [] f fd)  : DefOk ⟨P, w, K, mg, base⟩ 1 f ["self", "part"] (spHas K Body.isDic) := by
  refine DefOk.mk' F sc_Holder_has (fun _ _ _ _ _ _ us hl => match us, hl with | [_, _], _ => rfl) (fun vs H Q E h => ?_) (fun cdv A outer s H vs Q E hr h => ?_)
  · obtain ⟨a, c, n, t, y, rfl, _⟩ := h
    rfl
  · obtain ⟨a, c, n, t, y, rfl, hb, ht, k⟩ := h
    have hu := hu_of hr
    refine ⟨_, (pss_one (ps_ret (pe_cmp (pc_din hu (pv 1) (pe_fld (pv 0) rfl)) rfl))), ?_⟩
    obtain ⟨b, l, g⟩ := t
    cases b <;> try cases hb
    rename_i r kvs
    obtain ⟨dx, v, ho, rfl, vs, hc, r2⟩ := ht
    refine ⟨_, rfl, _, rfl, a, _, dx, _, _, rfl, ho, b_cls T (.dic r kvs), b_cells T (.dic r kvs) (fun _ _ z => by cases z), thF_cells, c, _, rfl, DGet.k (k := y) hc, ?_⟩
    rw [r2.any]
    exact k H (Same.refl H)
theorem ok_Row_has {f : Addr} (T : Tx w K mg) (F : ∃ fd, FunD K "has" "Row.has" (defArgs s_Row_has) (defBody s_Row_has) (defScope s_Row_has) [] [] f fd)  : DefOk ⟨P, w, K, mg, base⟩ 1 f ["self", "part"] (spHas K Body.isRow) := by
  refine DefOk.mk' F sc_Row_has (fun _ _ _ _ _ _ us hl => match us, hl with | [_, _], _ => rfl) (fun vs H Q E h => ?_) (fun cdv A outer s H vs Q E hr h => ?_)
  · obtain ⟨a, c, n, t, y, rfl, _⟩ := h
    rfl
  · obtain ⟨a, c, n, t, y, rfl, hb, ht, k⟩ := h
    have hu := hu_of hr
    refine ⟨_, (pss_one (ps_ret (pe_cmpR op_in_rngK (pv 1) (pe_callTy cr_range1K (by rfl) (z_range T) (by decide +kernel) (pa_cons (pe_callB call_len_seq (by rfl) (z_len T) PySem.boot_len (pa_cons (pe_fld (pv 0) rfl) pa_nil)) pa_nil)) (by rfl)))), ?_⟩
    obtain ⟨b, l, g⟩ := t
    cases b <;> try cases hb
    rename_i xs
    obtain ⟨dx, v, ho, rfl, vs, hc, r2⟩ := ht
    refine ⟨_, rfl, _, rfl, a, _, dx, _, _, rfl, ho, c_Row T, n_Row_cells T, thF_cells, c, _, rfl, .inl (SqL.of hc), _, rfl, fun p hp => ⟨y, p, _, _, rfl, rfl, upd_same, ?_⟩⟩
    rw [LVR.length r2]
    exact k _ (same_new hp)
theorem ok_Record_fits {f : Addr} (T : Tx w K mg) (F : ∃ fd, FunD K "fits" "Record.fits" (defArgs s_Record_fits) (defBody s_Record_fits) (defScope s_Record_fits) [] [] f fd)  : DefOk ⟨P, w, K, mg, base⟩ 1 f ["self", "part"] (spFits K (fun b => match b with | .dic true _ => true | _ => false)) := by
  refine DefOk.mk' F sc_Record_fits (fun _ _ _ _ _ _ us hl => match us, hl with | [_, _], _ => rfl) (fun vs H Q E h => ?_) (fun cdv A outer s H vs Q E hr h => ?_)
  · obtain ⟨a, c, n, t, y, rfl, _⟩ := h
    rfl
  · obtain ⟨a, c, n, t, y, rfl, hb, ht, k⟩ := h
    have hu := hu_of hr
    refine ⟨_, (pss_one (ps_ret (pe_cmp (pc_din hu (pv 1) (pe_fld (pv 0) rfl)) rfl))), ?_⟩
    obtain ⟨b, l, g⟩ := t
    cases b <;> try cases hb
    rename_i r kvs
    cases r <;> try cases hb
    obtain ⟨dx, v, ho, rfl, vs, hc, r2⟩ := ht
    refine ⟨_, rfl, _, rfl, a, _, dx, _, _, rfl, ho, c_Record T, n_Record_cells T, thF_cells, c, _, rfl, DGet.k (k := y) hc, ?_⟩
    rw [r2.any]
    exact k H (Same.refl H)
theorem ok_Row_fits {f : Addr} (T : Tx w K mg) (F : ∃ fd, FunD K "fits" "Row.fits" (defArgs s_Row_fits) (defBody s_Row_fits) (defScope s_Row_fits) [] [] f fd)  : DefOk ⟨P, w, K, mg, base⟩ 1 f ["self", "part"] (spFits K Body.isRow) := by
  refine DefOk.mk' F sc_Row_fits (fun _ _ _ _ _ _ us hl => match us, hl with | [_, _], _ => rfl) (fun vs H Q E h => ?_) (fun cdv A outer s H vs Q E hr h => ?_)
  · obtain ⟨a, c, n, t, y, rfl, _⟩ := h
    rfl
  · obtain ⟨a, c, n, t, y, rfl, hb, ht, k⟩ := h
    have hu := hu_of hr
    refine ⟨_, (pss_one (ps_ret (pe_cmpR op_in_rngK (pv 1) (pe_callTy cr_range1K (by rfl) (z_range T) (by decide +kernel) (pa_cons (pe_callB (call_min2 rfl) (by rfl) (z_min T) (by decide +kernel) (pa_cons (pe_op op_add (pe_callB call_len_seq (by rfl) (z_len T) PySem.boot_len (pa_cons (pe_fld (pv 0) rfl) pa_nil)) pe_int) (pa_cons (pe_glob (v := .int 8) rfl (i_ROW_MOST T).choose_spec ⟨_, rfl⟩) pa_nil))) pa_nil)) (by rfl)))), ?_⟩
    obtain ⟨b, l, g⟩ := t
    cases b <;> try cases hb
    rename_i xs
    obtain ⟨dx, v, ho, rfl, vs, hc, r2⟩ := ht
    refine ⟨_, rfl, _, rfl, a, _, dx, _, _, rfl, ho, c_Row T, n_Row_cells T, thF_cells, c, _, rfl, .inl (SqL.of hc), _, _, rfl, rfl, _, _, rfl, ?_⟩
    refine ⟨_, rfl, fun p hp => ⟨y, p, _, _, rfl, rfl, upd_same, ?_⟩⟩
    have e : (if (8 : Int) < (vs.length : Int) + 1 then (8 : Int) else (vs.length : Int) + 1) = min ((xs.length : Int) + 1) 8 := by
      rw [LVR.length r2]
      split <;> omega
    rw [e]
    exact k _ (same_new hp)
theorem ok_Book_fits {f : Addr} (T : Tx w K mg) (F : ∃ fd, FunD K "fits" "Book.fits" (defArgs s_Book_fits) (defBody s_Book_fits) (defScope s_Book_fits) [] [] f fd)  : DefOk ⟨P, w, K, mg, base⟩ 1 f ["self", "part"] (spFits K (fun b => match b with | .dic false _ => true | _ => false)) := by
  refine DefOk.mk' F sc_Book_fits (fun _ _ _ _ _ _ us hl => match us, hl with | [_, _], _ => rfl) (fun vs H Q E h => ?_) (fun cdv A outer s H vs Q E hr h => ?_)
  · obtain ⟨a, c, n, t, y, rfl, _⟩ := h
    rfl
  · obtain ⟨a, c, n, t, y, rfl, hb, ht, k⟩ := h
    have hu := hu_of hr
    refine ⟨_, (pss_one (ps_ret (pe_or (pe_cmp (pc_din hu (pv 1) (pe_fld (pv 0) rfl)) rfl) (pe_one (pe_and (pe_cmpR op_in_rngK (pv 1) (pe_callTy cr_range1K (by rfl) (z_range T) (by decide +kernel) (pa_cons (pe_glob (v := .int 10) rfl (i_BOOK_KEYS T).choose_spec ⟨_, rfl⟩) pa_nil)) (by rfl)) (pe_one (pe_cmpR op_lt (pe_callB call_lenD (by rfl) (z_len T) PySem.boot_len (pa_cons (pe_fld (pv 0) rfl) pa_nil)) (pe_glob (v := .int 6) rfl (i_BOOK_MOST T).choose_spec ⟨_, rfl⟩) (nomark _)))))))), ?_⟩
    obtain ⟨b, l, g⟩ := t
    cases b <;> try cases hb
    rename_i r kvs
    cases r <;> try cases hb
    obtain ⟨dx, v, ho, rfl, vs, hc, r2⟩ := ht
    refine ⟨_, rfl, _, rfl, a, _, dx, _, _, rfl, ho, c_Book T, n_Book_cells T, thF_cells, c, _, rfl, DGet.k (k := y) hc, _, rfl, ?_⟩
    have ef : (Body.dic false kvs).fits y = ((valV vs y).isSome || (inR 0 10 y && decide (vs.length < 6))) := by
      show ((valV kvs y).isSome || (inR 0 10 y && decide (kvs.length < 6))) = _
      rw [r2.any, KVR.length r2]
    rw [show ({ body := Body.dic false kvs, last := l, goal := g } : Th).body.fits y = _ from ef] at k
    refine ite2 (fun h1 => ?_) (fun h1 => ?_)
    · rw [h1] at k
      exact k H (Same.refl H)
    · have h1' : (valV vs y).isSome = false := by simpa using h1
      rw [h1', Bool.false_or] at k
      refine ⟨_, rfl, _, rfl, fun p hp => ⟨y, p, 0, 10, rfl, rfl, upd_same, _, rfl, ?_⟩⟩
      have nap : a ≠ p := ne_of_none ho hp
      have ncp : c ≠ p := ne_of_none hc hp
      refine ite2 (fun h2 => ?_) (fun h2 => ?_)
      · rw [h2, Bool.true_and] at k
        refine ⟨_, rfl, a, _, dx, _, _, rfl, (by rw [upd_ne nap]; exact ho), c_Book T, n_Book_cells T, thF_cells, c, vs, rfl, (by rw [upd_ne ncp]; exact hc), _, _, rfl, rfl, ?_⟩
        have e6 : decide ((vs.length : Int) < 6) = decide (vs.length < 6) := by
          rw [decide_eq_decide]; omega
        show Q (.bl (decide ((vs.length : Int) < 6))) _
        rw [e6]
        exact k _ (same_new hp)
      · have h2' : inR 0 10 y = false := by simpa using h2
        rw [h2', Bool.false_and] at k
        exact k _ (same_new hp)
end
end WK
namespace WK
open PySem PySem.Spec PyProof.Rows L2 He WB
section
variable {P : Program} {w : World} {K : PySem.W.Frag} {mg : Str → Option Value} {base : Heap}
def spShown (K : PySem.W.Frag) (p : Body → Bool) : Sp := fun vs H Q _ => ∃ (a c : Addr) (n : Nat) (t : Th), vs = [.ref a] ∧ p t.body = true ∧ t.body.wf ∧ ThAt K H a c n t ∧ ∀ l H', Same H H' → H l = none → ShownAt H' l t.body.shown → Q (.ref l) H'
def isRec : Body → Bool
  | .dic true _ => true
  | _ => false
def isBook : Body → Bool
  | .dic false _ => true
  | _ => false
theorem ok_Book_shown {f : Addr} (T : Tx w K mg) (F : ∃ fd, FunD K "shown" "Holder.shown" (defArgs s_Holder_shown) (defBody s_Holder_shown) (defScope s_Holder_shown) [] [] f fd)  : DefOk ⟨P, w, K, mg, base⟩ 1 f ["self"] (spShown K isBook) := by
  refine DefOk.mk' F sc_Holder_shown (fun _ _ _ _ _ _ us hl => match us, hl with | [_], _ => rfl) (fun vs H Q E h => ?_) (fun cdv A outer s H vs Q E hr h => ?_)
  · obtain ⟨a, c, n, t, rfl, _⟩ := h
    rfl
  · obtain ⟨a, c, n, t, rfl, hb, wf, ht, k⟩ := h
    have hu := hu_of hr
    refine ⟨_, (pss_one (ps_ret (pe_lc (own := [("part", 1)]) (g := (gName 1)) rfl sc_Holder_shown.nd (pi_list (pe_callB (cr_sortD rfl) (by rfl) (z_sorted T) (by decide +kernel) (pa_cons (pe_fld (pv 0) rfl) pa_nil))) (blkOk_by (own := [("part", 1)]) (N := ["self", "part"]) (sc := defScope s_Holder_shown) (by decide +kernel)) (fun _ _ _ _ _ => (pg_name (i := 1) sc_Holder_shown.nd rfl (Or.inl rfl))) (fun _ _ _ _ _ => by exact pts_nil) (fun _ _ _ _ _ => by exact (pe_tup (pa_cons (pv 1) (pa_cons (pe_dget hu (pe_fldK (K := K) rfl (pv 0) rfl) (pv 1) (fun _ _ => rfl)) pa_nil))))))), ?_⟩
    obtain ⟨b, l, g⟩ := t
    cases b <;> try cases hb
    rename_i r kvs
    cases r <;> try cases hb
    obtain ⟨dx, v, ho, rfl, vs, hc, r2⟩ := ht
    obtain ⟨w1, w2, w3⟩ := wf
    have hk : vs.map (·.1) = (bkeys kvs).map Sum.inl := (KVR.keys r2).trans (bkeys_map w3)
    refine ⟨_, rfl, a, _, dx, _, _, rfl, ho, c_Book T, n_Book_cells T, thF_cells, c, vs, _, rfl, .inl hc, hk, fun ys p hp hs np => ?_⟩
    have ey := srtI_eq hp hs
    subst ey
    refine ⟨_, rfl, ⟨_, SqL.of upd_same⟩, fun D hD => ?_⟩
    have hDp : D ≠ p := fun e => by
      rw [e, upd_same] at hD; cases hD
    have hD0 : H D = none := by
      rw [upd_ne hDp] at hD; exact hD
    have sh0 : Same H (upd H p (.lst ((srtI (bkeys kvs)).map V.int))) := same_new np
    have len6 : (srtI (bkeys kvs)).length ≤ 6 := by
      rw [(srtI_perm _).length_eq, ← List.length_map (f := (Sum.inl : Int → Key)), ← hk, List.length_map, KVR.length r2]; exact w2
    refine lc_list (K := K) (a := p) (xs := (srtI (bkeys kvs)).map V.int) (fun i H' => ShInv (upd H p (.lst ((srtI (bkeys kvs)).map V.int))) D ((Body.dic false kvs).shown.take i) H')
      (ShInv.nil (Same.refl _) hD hD) (fun i H' _ h => SqL.of (h.1 _ _ upd_same)) ?_ ?_
    · rintro i x H' hi h
      rw [List.getElem?_map] at hi
      obtain ⟨j, hj, rfl⟩ := Option.map_eq_some_iff.mp hi
      have hm : (Sum.inl j : Key) ∈ kvs.map (·.1) := by
        rw [bkeys_map w3]; exact List.mem_map_of_mem ((srtI_perm _).mem_iff.mp (List.mem_of_getElem? hj))
      obtain ⟨y, hy⟩ : ∃ y, valV kvs (.inl j) = some y := by
        cases e : valV kvs (.inl j) with
        | some y => exact ⟨y, rfl⟩
        | none => exact absurd hm (valV_not e)
      obtain ⟨v, hv, rv⟩ := KVR.val_some r2 hy
      have es : (Body.dic false kvs).shown[i]? = some (.inl j, y) := by
        show ((srtI (bkeys kvs)).map fun i => ((.inl i : Key), (valV kvs (.inl i)).getD .non))[i]? = _
        rw [List.getElem?_map, hj]; simp [hy]
      have h1 : H' a = some _ := h.1 _ _ (sh0 _ _ ho)
      have h2 : H' c = some _ := h.1 _ _ (sh0 _ _ hc)
      refine ⟨rfl, ?_⟩
      refine ⟨_, rfl, _, rfl, a, _, dx, _, _, rfl, h1, c_Book T, n_Book_cells T, thF_cells, _, rfl, c, v, rfl, (by rw [← hv]; exact DGet.k (k := .inl j) h2), (by show 2 ≤ sizeLine; decide), fun q hq => ?_⟩
      obtain ⟨acc, e1, e2, nx⟩ := h.step (k := .inl j) hD hq (VR.mono (Same.tup sh0) rv)
      refine ⟨acc, e1, ?_, ?_⟩
      · rw [e2, List.length_take]; exact szl (by have : (Body.dic false kvs).shown.length ≤ 6 := (by show (List.map _ _).length ≤ 6; rw [List.length_map]; exact len6); omega)
      · rw [take_snoc es]; exact nx
    · rintro H' h
      refine k D H' (sh0.trans h.1) hD0 ?_
      have e : (Body.dic false kvs).shown.take ((srtI (bkeys kvs)).map V.int).length = (Body.dic false kvs).shown := List.take_of_length_le (by rw [List.length_map]; exact Nat.le_of_eq (by show (List.map _ _).length = _; rw [List.length_map]))
      rw [e] at h
      exact h.2
theorem letsK : (lets.map Sum.inr : List Key) = letK := by kernel_rfl
theorem ok_Record_shown {f : Addr} (T : Tx w K mg) (F : ∃ fd, FunD K "shown" "Holder.shown" (defArgs s_Holder_shown) (defBody s_Holder_shown) (defScope s_Holder_shown) [] [] f fd)  : DefOk ⟨P, w, K, mg, base⟩ 1 f ["self"] (spShown K isRec) := by
  refine DefOk.mk' F sc_Holder_shown (fun _ _ _ _ _ _ us hl => match us, hl with | [_], _ => rfl) (fun vs H Q E h => ?_) (fun cdv A outer s H vs Q E hr h => ?_)
  · obtain ⟨a, c, n, t, rfl, _⟩ := h
    rfl
  · obtain ⟨a, c, n, t, rfl, hb, wf, ht, k⟩ := h
    have hu := hu_of hr
    refine ⟨_, (pss_one (ps_ret (pe_lc (own := [("part", 1)]) (g := (gName 1)) rfl sc_Holder_shown.nd (pi_list (pe_callB (call_sortedD rfl) (by rfl) (z_sorted T) (by decide +kernel) (pa_cons (pe_fld (pv 0) rfl) pa_nil))) (blkOk_by (own := [("part", 1)]) (N := ["self", "part"]) (sc := defScope s_Holder_shown) (by decide +kernel)) (fun _ _ _ _ _ => (pg_name (i := 1) sc_Holder_shown.nd rfl (Or.inl rfl))) (fun _ _ _ _ _ => by exact pts_nil) (fun _ _ _ _ _ => by exact (pe_tup (pa_cons (pv 1) (pa_cons (pe_dget hu (pe_fldK (K := K) rfl (pv 0) rfl) (pv 1) (fun _ _ => rfl)) pa_nil))))))), ?_⟩
    obtain ⟨b, l, g⟩ := t
    cases b <;> try cases hb
    rename_i r kvs
    cases r <;> try cases hb
    obtain ⟨dx, v, ho, rfl, vs, hc, r2⟩ := ht
    have hk : vs.map (·.1) = lets.map Sum.inr := (KVR.keys r2).trans (wf.trans letsK.symm)
    refine ⟨_, rfl, a, _, dx, _, _, rfl, ho, c_Record T, n_Record_cells T, thF_cells, c, vs, _, rfl, .inl hc, hk, by decide, fun ys p hp hs np => ?_⟩
    have ey := lets_eq hp hs
    subst ey
    refine ⟨_, rfl, ⟨_, SqL.of upd_same⟩, fun D hD => ?_⟩
    have hDp : D ≠ p := fun e => by
      rw [e, upd_same] at hD; cases hD
    have hD0 : H D = none := by
      rw [upd_ne hDp] at hD; exact hD
    have sh0 : Same H (upd H p (.lst (lets.map V.str))) := same_new np
    refine lc_list (K := K) (a := p) (xs := lets.map V.str) (fun i H' => ShInv (upd H p (.lst (lets.map V.str))) D ((Body.dic true kvs).shown.take i) H')
      (ShInv.nil (Same.refl _) hD hD) (fun i H' _ h => SqL.of (h.1 _ _ upd_same)) ?_ ?_
    · rintro i x H' hi h
      rw [List.getElem?_map] at hi
      obtain ⟨j, hj, rfl⟩ := Option.map_eq_some_iff.mp hi
      have hm : (Sum.inr j : Key) ∈ kvs.map (·.1) := by
        rw [show kvs.map (·.1) = letK from wf, ← letsK]; exact List.mem_map_of_mem (List.mem_of_getElem? hj)
      obtain ⟨y, hy⟩ : ∃ y, valV kvs (.inr j) = some y := by
        cases e : valV kvs (.inr j) with
        | some y => exact ⟨y, rfl⟩
        | none => exact absurd hm (valV_not e)
      obtain ⟨v, hv, rv⟩ := KVR.val_some r2 hy
      have es : (Body.dic true kvs).shown[i]? = some (.inr j, y) := by
        show (letK.map fun k => (k, (valV kvs k).getD .non))[i]? = _
        rw [← letsK, List.getElem?_map, List.getElem?_map, hj]; simp [hy]
      have h1 : H' a = some _ := h.1 _ _ (sh0 _ _ ho)
      have h2 : H' c = some _ := h.1 _ _ (sh0 _ _ hc)
      refine ⟨rfl, ?_⟩
      refine ⟨_, rfl, _, rfl, a, _, dx, _, _, rfl, h1, c_Record T, n_Record_cells T, thF_cells, _, rfl, c, v, rfl, (by rw [← hv]; exact DGet.k (k := .inr j) h2), (by show 2 ≤ sizeLine; decide), fun q hq => ?_⟩
      obtain ⟨acc, e1, e2, nx⟩ := h.step (k := .inr j) hD hq (VR.mono (Same.tup sh0) rv)
      refine ⟨acc, e1, ?_, ?_⟩
      · rw [e2, List.length_take]; exact szl (by have : (Body.dic true kvs).shown.length = 4 := (by show (List.map _ _).length = 4; rw [List.length_map]; rfl); omega)
      · rw [take_snoc es]; exact nx
    · rintro H' h
      refine k D H' (sh0.trans h.1) hD0 ?_
      have e : (Body.dic true kvs).shown.take (lets.map V.str).length = (Body.dic true kvs).shown := List.take_of_length_le (Nat.le_of_eq (by show (List.map _ _).length = _; rw [List.length_map]; rfl))
      rw [e] at h
      exact h.2
/-- size -/
def spSize (K : PySem.W.Frag) (p : Body → Bool) : Sp := fun vs H Q _ => ∃ (a c : Addr) (n : Nat) (t : Th), vs = [.ref a] ∧ p t.body = true ∧ ThAt K H a c n t ∧ Q (.int t.body.size) H
theorem ok_Watch_size {f : Addr} (T : Tx w K mg) (F : ∃ fd, FunD K "size" "Watch.size" (defArgs s_Watch_size) (defBody s_Watch_size) (defScope s_Watch_size) [] [] f fd)  : DefOk ⟨P, w, K, mg, base⟩ 1 f ["self"] (spSize K Body.isWat) := by
  refine DefOk.mk' F sc_Watch_size (fun _ _ _ _ _ _ us hl => match us, hl with | [_], _ => rfl) (fun vs H Q E h => ?_) (fun cdv A outer s H vs Q E hr h => ?_)
  · obtain ⟨a, c, n, t, rfl, _⟩ := h
    rfl
  · obtain ⟨a, c, n, t, rfl, hb, ht, k⟩ := h
    have hu := hu_of hr
    refine ⟨_, (pss_one (ps_ret pe_int)), ?_⟩
    obtain ⟨b, l, g⟩ := t
    cases b <;> try cases hb
    exact k
theorem ok_Book_size {f : Addr} (T : Tx w K mg) (F : ∃ fd, FunD K "size" "Book.size" (defArgs s_Book_size) (defBody s_Book_size) (defScope s_Book_size) [] [] f fd)  : DefOk ⟨P, w, K, mg, base⟩ 1 f ["self"] (spSize K isBook) := by
  refine DefOk.mk' F sc_Book_size (fun _ _ _ _ _ _ us hl => match us, hl with | [_], _ => rfl) (fun vs H Q E h => ?_) (fun cdv A outer s H vs Q E hr h => ?_)
  · obtain ⟨a, c, n, t, rfl, _⟩ := h
    rfl
  · obtain ⟨a, c, n, t, rfl, hb, ht, k⟩ := h
    have hu := hu_of hr
    refine ⟨_, (pss_one (ps_ret (pe_op op_add pe_int (pe_op op_mul pe_int (pe_callB call_lenD (by rfl) (z_len T) PySem.boot_len (pa_cons (pe_fld (pv 0) rfl) pa_nil)))))), ?_⟩
    obtain ⟨b, l, g⟩ := t
    cases b <;> try cases hb
    rename_i r kvs
    cases r <;> try cases hb
    obtain ⟨dx, v, ho, rfl, vs, hc, r2⟩ := ht
    refine ⟨_, rfl, a, _, dx, _, _, rfl, ho, c_Book T, n_Book_cells T, thF_cells, c, vs, rfl, hc, _, _, rfl, rfl, .inl ⟨by decide, by decide⟩, _, _, rfl, rfl, ?_⟩
    show Q (.int (1 + 2 * (vs.length : Int))) H
    rw [KVR.length r2]
    exact k
theorem ok_Record_size {f : Addr} (T : Tx w K mg) (F : ∃ fd, FunD K "size" "Holder.size" (defArgs s_Holder_size) (defBody s_Holder_size) (defScope s_Holder_size) [] [] f fd)  : DefOk ⟨P, w, K, mg, base⟩ 1 f ["self"] (spSize K isRec) := by
  refine DefOk.mk' F sc_Holder_size (fun _ _ _ _ _ _ us hl => match us, hl with | [_], _ => rfl) (fun vs H Q E h => ?_) (fun cdv A outer s H vs Q E hr h => ?_)
  · obtain ⟨a, c, n, t, rfl, _⟩ := h
    rfl
  · obtain ⟨a, c, n, t, rfl, hb, ht, k⟩ := h
    have hu := hu_of hr
    refine ⟨_, (pss_one (ps_ret (pe_op op_add pe_int (pe_callB call_lenD (by rfl) (z_len T) PySem.boot_len (pa_cons (pe_fld (pv 0) rfl) pa_nil))))), ?_⟩
    obtain ⟨b, l, g⟩ := t
    cases b <;> try cases hb
    rename_i r kvs
    cases r <;> try cases hb
    obtain ⟨dx, v, ho, rfl, vs, hc, r2⟩ := ht
    refine ⟨_, rfl, a, _, dx, _, _, rfl, ho, c_Record T, n_Record_cells T, thF_cells, c, vs, rfl, hc, _, _, rfl, rfl, ?_⟩
    show Q (.int (1 + (vs.length : Int))) H
    rw [KVR.length r2]
    exact k
theorem ok_Row_size {f : Addr} (T : Tx w K mg) (F : ∃ fd, FunD K "size" "Holder.size" (defArgs s_Holder_size) (defBody s_Holder_size) (defScope s_Holder_size) [] [] f fd)  : DefOk ⟨P, w, K, mg, base⟩ 1 f ["self"] (spSize K Body.isRow) := by
  refine DefOk.mk' F sc_Holder_size (fun _ _ _ _ _ _ us hl => match us, hl with | [_], _ => rfl) (fun vs H Q E h => ?_) (fun cdv A outer s H vs Q E hr h => ?_)
  · obtain ⟨a, c, n, t, rfl, _⟩ := h
    rfl
  · obtain ⟨a, c, n, t, rfl, hb, ht, k⟩ := h
    have hu := hu_of hr
    refine ⟨_, (pss_one (ps_ret (pe_op op_add pe_int (pe_callB call_len_seq (by rfl) (z_len T) PySem.boot_len (pa_cons (pe_fld (pv 0) rfl) pa_nil))))), ?_⟩
    obtain ⟨b, l, g⟩ := t
    cases b <;> try cases hb
    rename_i xs
    obtain ⟨dx, v, ho, rfl, vs, hc, r2⟩ := ht
    refine ⟨_, rfl, a, _, dx, _, _, rfl, ho, c_Row T, n_Row_cells T, thF_cells, c, vs, rfl, .inl (SqL.of hc), _, _, rfl, rfl, ?_⟩
    show Q (.int (1 + (vs.length : Int))) H
    rw [LVR.length r2]
    exact k
/-- at -/
def spAt (K : PySem.W.Frag) (p : Body → Bool) : Sp := fun vs H Q _ => ∃ (a c : Addr) (n : Nat) (t : Th) (k : Key), vs = [.ref a, kV k] ∧ p t.body = true ∧ t.body.has k = true ∧ ThAt K H a c n t ∧ ∀ v, VR H v (t.body.at k) → Q v H
theorem ok_Holder_at {f : Addr} (T : Tx w K mg) (F : ∃ fd, FunD K "at" "Holder.at" (defArgs s_Holder_at) (defBody s_Holder_at) (defScope s_Holder_at) [] [] f fd)  : DefOk ⟨P, w, K, mg, base⟩ 1 f ["self", "part"] (spAt K Body.isDic) := by
  refine DefOk.mk' F sc_Holder_at (fun _ _ _ _ _ _ us hl => match us, hl with | [_, _], _ => rfl) (fun vs H Q E h => ?_) (fun cdv A outer s H vs Q E hr h => ?_)
  · obtain ⟨a, c, n, t, y, rfl, _⟩ := h
    rfl
  · obtain ⟨a, c, n, t, y, rfl, hb, hh, ht, k⟩ := h
    have hu := hu_of hr
    refine ⟨_, (pss_one (ps_ret (pe_dget hu (pe_fld (pv 0) rfl) (pv 1) (fun _ _ => rfl)))), ?_⟩
    obtain ⟨b, l, g⟩ := t
    cases b <;> try cases hb
    rename_i r kvs
    obtain ⟨dx, v, ho, rfl, vs, hc, r2⟩ := ht
    obtain ⟨x, hx⟩ := Option.isSome_iff_exists.mp (show (valV kvs y).isSome = true from hh)
    obtain ⟨u, hu2, ru⟩ := KVR.val_some r2 hx
    refine ⟨_, rfl, a, _, dx, _, _, rfl, ho, b_cls T (.dic r kvs), b_cells T (.dic r kvs) (fun _ _ z => by cases z), thF_cells, _, rfl, c, u, rfl, (by rw [← hu2]; exact DGet.k (k := y) hc), ?_⟩
    refine k u ?_
    show VR H u ((valV kvs y).getD .non)
    rw [hx]
    exact ru
theorem ok_Row_at {f : Addr} (T : Tx w K mg) (F : ∃ fd, FunD K "at" "Holder.at" (defArgs s_Holder_at) (defBody s_Holder_at) (defScope s_Holder_at) [] [] f fd)  : DefOk ⟨P, w, K, mg, base⟩ 1 f ["self", "part"] (spAt K Body.isRow) := by
  refine DefOk.mk' F sc_Holder_at (fun _ _ _ _ _ _ us hl => match us, hl with | [_, _], _ => rfl) (fun vs H Q E h => ?_) (fun cdv A outer s H vs Q E hr h => ?_)
  · obtain ⟨a, c, n, t, y, rfl, _⟩ := h
    rfl
  · obtain ⟨a, c, n, t, y, rfl, hb, hh, ht, k⟩ := h
    have hu := hu_of hr
    refine ⟨_, (pss_one (ps_ret (pe_ix ix_list (pe_fld (pv 0) rfl) (pv 1) (fun _ _ => rfl)))), ?_⟩
    obtain ⟨b, l, g⟩ := t
    cases b <;> try cases hb
    rename_i xs
    obtain ⟨dx, v, ho, rfl, vs, hc, r2⟩ := ht
    cases y with
    | inr z => cases hh
    | inl i =>
      obtain ⟨h1, h2⟩ := of_decide_eq_true (show decide (0 ≤ i ∧ i < (xs.length : Int)) = true from hh)
      rcases Paired.at i.toNat r2 with ⟨_, z⟩ | ⟨u, x, e1, e2, ru⟩
      · rw [List.getElem?_eq_none_iff] at z; omega
      refine ⟨_, rfl, a, _, dx, _, _, rfl, ho, c_Row T, n_Row_cells T, thF_cells, _, rfl, c, vs, i, u, rfl, rfl, SqL.of hc, ?_, ?_⟩
      · have q := atI_nat e1
        rwa [show ((i.toNat : Nat) : Int) = i by omega] at q
      · refine k u ?_
        show VR H u (xs.getD i.toNat .non)
        rw [List.getD_eq_getElem?_getD, e2]
        exact ru
end
end WK
namespace WK
open PySem PySem.Spec PyProof.Rows L2 He WB
section
variable {P : Program} {w : World} {K : PySem.W.Frag} {mg : Str → Option Value} {base : Heap}
theorem thAt_upd {H : Hp} {a c dx : Addr} {n : Nat} {t : Th} {b' : Body} {o o0 : HO} (ho : H a = some (.ins (ga K t.body.cls) dx (thF n t.body.kind (t.last != .no) (t.last == .due) t.goal t.body.part (.ref c))))
    (hc : H c = some o0) (hn : ∀ C d fs, o0 ≠ .ins C d fs) (hb : BodyAt (upd H c o) c (.ref c) b') (e : b'.cls = t.body.cls ∧ b'.kind = t.body.kind ∧ b'.part = t.body.part) : ThAt K (upd H c o) a c n { t with body := b' } := by
  have nac : a ≠ c := by
    rintro rfl
    rw [hc] at ho
    exact hn _ _ _ (Option.some.inj ho)
  refine ⟨dx, .ref c, ?_, hb⟩
  rw [upd_ne nac, ho, e.1, e.2.1, e.2.2]
def spPut (K : PySem.W.Frag) (p : Body → Bool) : Sp := fun vs H Q _ => ∃ (a c : Addr) (n : Nat) (t : Th) (k : Key) (v x : V), vs = [.ref a, kV k, v] ∧ p t.body = true ∧ t.body.fits k = true ∧ t.body.wf ∧ ThAt K H a c n t ∧ VR H v x ∧
  ∀ o, Tup H (upd H c o) → ThAt K (upd H c o) a c n { t with body := t.body.put k x } → Q .non (upd H c o)
def spCut (K : PySem.W.Frag) (p : Body → Bool) : Sp := fun vs H Q _ => ∃ (a c : Addr) (n : Nat) (t : Th) (k : Key), vs = [.ref a, kV k] ∧ p t.body = true ∧ t.body.has k = true ∧ t.body.wf ∧ ThAt K H a c n t ∧
  ∀ o, Tup H (upd H c o) → ThAt K (upd H c o) a c n { t with body := t.body.cut k } → Q .non (upd H c o)
theorem wf_len {r : Bool} {kvs : List (Key × V)} (h : (Body.dic r kvs).wf) : kvs.length ≤ 6 := by
  cases r with
  | true =>
    have e := congrArg List.length (show kvs.map (·.1) = letK from h)
    rw [List.length_map] at e
    rw [e]; decide
  | false => exact h.2.1
theorem ok_Holder_put {f : Addr} (T : Tx w K mg) (F : ∃ fd, FunD K "put" "Holder.put" (defArgs s_Holder_put) (defBody s_Holder_put) (defScope s_Holder_put) [] [] f fd)  : DefOk ⟨P, w, K, mg, base⟩ 1 f ["self", "part", "value"] (spPut K Body.isDic) := by
  refine DefOk.mk' F sc_Holder_put (fun _ _ _ _ _ _ us hl => match us, hl with | [_, _, _], _ => rfl) (fun vs H Q E h => ?_) (fun cdv A outer s H vs Q E hr h => ?_)
  · obtain ⟨a, c, n, t, y, v, x, rfl, _⟩ := h
    rfl
  · obtain ⟨a, c, n, t, y, v, x, rfl, hb, hf, wf, ht, rv, k⟩ := h
    have hu := hu_of hr
    refine ⟨_, (pss_one (ps_dput hu (pe_fld (pv 0) rfl) (pv 1) (pv 2) rfl)), ?_⟩
    obtain ⟨b, l, g⟩ := t
    cases b <;> try cases hb
    rename_i r kvs
    obtain ⟨dx, u, ho, rfl, vs, hc, r2⟩ := ht
    have hl : vs.length ≤ 6 := by rw [KVR.length r2]; exact wf_len wf
    refine ⟨_, rfl, _, rfl, a, _, dx, _, _, rfl, ho, b_cls T (.dic r kvs), b_cells T (.dic r kvs) (fun _ _ z => by cases z), thF_cells, _, rfl, c, _, rfl, DPut.k (k := y) hc (szl (by omega)), ?_⟩
    have tp : Tup H (upd H c (.dK (putK vs y v))) := tup_upd (by rw [hc]; intro xs z; cases z; rfl)
    exact k _ tp (thAt_upd ho hc (by intro _ _ _ z; cases z) ⟨rfl, _, upd_same, KVR.mono tp (KVR.put rv r2)⟩ (by cases r <;> exact ⟨rfl, rfl, rfl⟩))
theorem ok_Row_put {f : Addr} (T : Tx w K mg) (F : ∃ fd, FunD K "put" "Row.put" (defArgs s_Row_put) (defBody s_Row_put) (defScope s_Row_put) [] [] f fd)  : DefOk ⟨P, w, K, mg, base⟩ 1 f ["self", "part", "value"] (spPut K Body.isRow) := by
  refine DefOk.mk' F sc_Row_put (fun _ _ _ _ _ _ us hl => match us, hl with | [_, _, _], _ => rfl) (fun vs H Q E h => ?_) (fun cdv A outer s H vs Q E hr h => ?_)
  · obtain ⟨a, c, n, t, y, v, x, rfl, _⟩ := h
    rfl
  · obtain ⟨a, c, n, t, y, v, x, rfl, hb, hf, wf, ht, rv, k⟩ := h
    have hu := hu_of hr
    refine ⟨_, (pss_one (ps_if (pt_cmpR op_eq (pv 1) (pe_callB call_len_seq (by rfl) (z_len T) PySem.boot_len (pa_cons (pe_fld (pv 0) rfl) pa_nil)) (nomark _)) (pss_one (ps_expr (pe_bm PySem.F.plainAttrs_list PySem.F.slot_list_append PySem.F.type_list_append mt_append (pe_fld (pv 0) rfl) (pa_cons (pv 2) pa_nil)))) (pss_one (ps_asg (pv 2) (pg_sub (pe_fld (pv 0) rfl) (pv 1) set_list))))), ?_⟩
    obtain ⟨b, l, g⟩ := t
    cases b <;> try cases hb
    rename_i xs
    obtain ⟨dx, u, ho, rfl, vs, hc, r2⟩ := ht
    have hl : vs.length ≤ 8 := by rw [LVR.length r2]; exact wf
    cases y with
    | inr z => cases hf
    | inl i =>
      obtain ⟨h1, h2⟩ := of_decide_eq_true (show decide (0 ≤ i ∧ i < min ((xs.length : Int) + 1) 8) = true from hf)
      have el := LVR.length r2
      have tp : ∀ ws, Tup H (upd H c (.lst ws)) := fun ws => tup_upd (by rw [hc]; intro xs z; cases z; rfl)
      refine ⟨_, rfl, _, rfl, a, _, dx, _, _, rfl, ho, c_Row T, n_Row_cells T, thF_cells, c, vs, rfl, .inl (SqL.of hc), rfl, _, rfl, ?_⟩
      refine ite2 (fun e => ?_) (fun e => ?_)
      · have e1 : i = (vs.length : Int) := V.int.inj (of_decide_eq_true e)
        refine ⟨_, rfl, a, _, dx, _, _, rfl, ho, c_Row T, n_Row_cells T, thF_cells, .inl ⟨rfl, _, SqL.of hc⟩, _, rfl, c, _, _, rfl, rfl, hc, szl (by omega), ?_⟩
        refine k _ (tp _) (thAt_upd ho hc (by intro _ _ _ z; cases z) ?_ (Body.put_cls (.row xs) (.inl i) x |> fun q => ⟨q.1, q.2.1, q.2.2.1⟩))
        show BodyAt _ c (.ref c) (if i.toNat = xs.length then .row (xs ++ [x]) else .row (xs.set i.toNat x))
        rw [if_pos (by omega)]
        exact ⟨rfl, _, upd_same, LVR.mono (tp _) (Paired.app r2 (.cons rv .nil))⟩
      · have e1 : ¬ i = (vs.length : Int) := fun z => e (decide_eq_true (by rw [z]; rfl))
        refine ⟨_, rfl, _, rfl, a, _, dx, _, _, rfl, ho, c_Row T, n_Row_cells T, thF_cells, _, rfl, c, vs, i, i.toNat, rfl, rfl, hc, ?_, ?_⟩
        · unfold ixN
          rw [if_pos h1, if_pos (by omega)]
        · refine k _ (tp _) (thAt_upd ho hc (by intro _ _ _ z; cases z) ?_ (Body.put_cls (.row xs) (.inl i) x |> fun q => ⟨q.1, q.2.1, q.2.2.1⟩))
          show BodyAt _ c (.ref c) (if i.toNat = xs.length then .row (xs ++ [x]) else .row (xs.set i.toNat x))
          rw [if_neg (by omega)]
          exact ⟨rfl, _, upd_same, LVR.mono (tp _) (Paired.setP rv _ r2)⟩
theorem ok_Record_cut {f : Addr} (T : Tx w K mg) (F : ∃ fd, FunD K "cut" "Record.cut" (defArgs s_Record_cut) (defBody s_Record_cut) (defScope s_Record_cut) [] [] f fd)  : DefOk ⟨P, w, K, mg, base⟩ 1 f ["self", "part"] (spCut K isRec) := by
  refine DefOk.mk' F sc_Record_cut (fun _ _ _ _ _ _ us hl => match us, hl with | [_, _], _ => rfl) (fun vs H Q E h => ?_) (fun cdv A outer s H vs Q E hr h => ?_)
  · obtain ⟨a, c, n, t, y, rfl, _⟩ := h
    rfl
  · obtain ⟨a, c, n, t, y, rfl, hb, hf, wf, ht, k⟩ := h
    have hu := hu_of hr
    refine ⟨_, (pss_one (ps_dput hu (pe_fld (pv 0) rfl) (pv 1) pe_non rfl)), ?_⟩
    obtain ⟨b, l, g⟩ := t
    cases b <;> try cases hb
    rename_i r kvs
    cases r <;> try cases hb
    obtain ⟨dx, u, ho, rfl, vs, hc, r2⟩ := ht
    have hl : vs.length ≤ 6 := by rw [KVR.length r2]; exact wf_len wf
    refine ⟨_, rfl, a, _, dx, _, _, rfl, ho, c_Record T, n_Record_cells T, thF_cells, _, rfl, c, _, rfl, DPut.k (k := y) hc (szl (by omega)), ?_⟩
    have tp : Tup H (upd H c (.dK (putK vs y .non))) := tup_upd (by rw [hc]; intro xs z; cases z; rfl)
    exact k _ tp (thAt_upd ho hc (by intro _ _ _ z; cases z) ⟨rfl, _, upd_same, KVR.mono tp (KVR.put VR.non r2)⟩ ⟨rfl, rfl, rfl⟩)
theorem ok_Book_cut {f : Addr} (T : Tx w K mg) (F : ∃ fd, FunD K "cut" "Holder.cut" (defArgs s_Holder_cut) (defBody s_Holder_cut) (defScope s_Holder_cut) [] [] f fd)  : DefOk ⟨P, w, K, mg, base⟩ 1 f ["self", "part"] (spCut K isBook) := by
  refine DefOk.mk' F sc_Holder_cut (fun _ _ _ _ _ _ us hl => match us, hl with | [_, _], _ => rfl) (fun vs H Q E h => ?_) (fun cdv A outer s H vs Q E hr h => ?_)
  · obtain ⟨a, c, n, t, y, rfl, _⟩ := h
    rfl
  · obtain ⟨a, c, n, t, y, rfl, hb, hf, wf, ht, k⟩ := h
    have hu := hu_of hr
    refine ⟨_, (pss_one (ps_ddel (pe_fld (pv 0) rfl) (pv 1))), ?_⟩
    obtain ⟨b, l, g⟩ := t
    cases b <;> try cases hb
    rename_i r kvs
    cases r <;> try cases hb
    obtain ⟨dx, u, ho, rfl, vs, hc, r2⟩ := ht
    refine ⟨_, rfl, a, _, dx, _, _, rfl, ho, c_Book T, n_Book_cells T, thF_cells, _, rfl, c, vs, y, rfl, hc, rfl, ?_, ?_⟩
    · rw [r2.any]; exact hf
    have tp : Tup H (upd H c (.dK (dropK vs y))) := tup_upd (by rw [hc]; intro xs z; cases z; rfl)
    exact k _ tp (thAt_upd ho hc (by intro _ _ _ z; cases z) ⟨rfl, _, upd_same, KVR.mono tp (KVR.drop r2)⟩ ⟨rfl, rfl, rfl⟩)
theorem ok_Row_cut {f : Addr} (T : Tx w K mg) (F : ∃ fd, FunD K "cut" "Holder.cut" (defArgs s_Holder_cut) (defBody s_Holder_cut) (defScope s_Holder_cut) [] [] f fd)  : DefOk ⟨P, w, K, mg, base⟩ 1 f ["self", "part"] (spCut K Body.isRow) := by
  refine DefOk.mk' F sc_Holder_cut (fun _ _ _ _ _ _ us hl => match us, hl with | [_, _], _ => rfl) (fun vs H Q E h => ?_) (fun cdv A outer s H vs Q E hr h => ?_)
  · obtain ⟨a, c, n, t, y, rfl, _⟩ := h
    rfl
  · obtain ⟨a, c, n, t, y, rfl, hb, hf, wf, ht, k⟩ := h
    have hu := hu_of hr
    refine ⟨_, (pss_one (ps_delL (pe_fld (pv 0) rfl) (pv 1))), ?_⟩
    obtain ⟨b, l, g⟩ := t
    cases b <;> try cases hb
    rename_i xs
    obtain ⟨dx, u, ho, rfl, vs, hc, r2⟩ := ht
    cases y with
    | inr z => cases hf
    | inl i =>
      obtain ⟨h1, h2⟩ := of_decide_eq_true (show decide (0 ≤ i ∧ i < (xs.length : Int)) = true from hf)
      have el := LVR.length r2
      have hl : vs.length ≤ 8 := by rw [el]; exact wf
      have hi : ixN vs.length i = some i.toNat := by
        unfold ixN
        rw [if_pos h1, if_pos (by omega)]
      refine ⟨_, rfl, a, _, dx, _, _, rfl, ho, c_Row T, n_Row_cells T, thF_cells, _, rfl, c, vs, i, i.toNat, rfl, rfl, hc, by omega, by omega, (ixN_seq hi).1, ?_⟩
      have tp : ∀ ws, Tup H (upd H c (.lst ws)) := fun ws => tup_upd (by rw [hc]; intro xs z; cases z; rfl)
      exact k _ (tp _) (thAt_upd ho hc (by intro _ _ _ z; cases z) ⟨rfl, _, upd_same, LVR.mono (tp _) (Paired.erase _ r2)⟩ ⟨rfl, rfl, rfl⟩)
end
end WK
namespace WB
open PySem PySem.Spec PyProof.Rows L2 He
theorem DefOk.imp {M : C5} {k : Nat} {f : Addr} {ps : List Str} {sp sp' : Sp} (D : DefOk M k f ps sp) (h : ∀ vs H Q E, sp' vs H Q E → sp vs H Q E) : DefOk M k f ps sp' :=
  ⟨let ⟨fd, F, b⟩ := D.ex; ⟨fd, F.imp h, b⟩, D.kp⟩
theorem DefOk.mono {M : C5} {k j : Nat} {f : Addr} {ps : List Str} {sp : Sp} (D : DefOk M k f ps sp) (h : k ≤ j) : DefOk M j f ps sp :=
  ⟨let ⟨fd, F, b⟩ := D.ex; ⟨fd, F.mono h, b⟩, D.kp⟩
theorem Paired.comp {α β γ : Type} {R : α → β → Prop} {S : β → γ → Prop} {U : α → γ → Prop} (h : ∀ a b c, R a b → S b c → U a c) : ∀ {xs : List α} {ys : List β} {zs : List γ}, Paired R xs ys → Paired S ys zs → Paired U xs zs
  | _, _, _, .nil, .nil => .nil
  | _, _, _, .cons r t, .cons r' t' => .cons (h _ _ _ r r') (Paired.comp h t t')
theorem enK_pair {H : Hp} : ∀ {vs xs : List V} (a : Nat), LVR H vs xs → KVR H (enK a vs) (enK a xs)
  | _, _, _, .nil => .nil
  | _, _, a, .cons r t => .cons ⟨rfl, r⟩ (enK_pair (a + 1) t)
/-- of one kind -/
def Body.sort : Body → Nat
  | .dic true _ => 0
  | .dic false _ => 1
  | .row _ => 2
  | .wat _ _ => 3
def Body.like (b c : Body) : Bool := b.sort == c.sort
theorem Body.like_refl (b : Body) : b.like b = true := beq_self_eq_true _
end WB
namespace WK
open PySem PySem.Spec PyProof.Rows L2 He WB
section
variable {P : Program} {w : World} {K : PySem.W.Frag} {mg : Str → Option Value} {base : Heap}
theorem ok_Row_shown {f : Addr} (T : Tx w K mg) (F : ∃ fd, FunD K "shown" "Row.shown" (defArgs s_Row_shown) (defBody s_Row_shown) (defScope s_Row_shown) [] [] f fd)  : DefOk ⟨P, w, K, mg, base⟩ 1 f ["self"] (spShown K Body.isRow) := by
  refine DefOk.mk' F sc_Row_shown (fun _ _ _ _ _ _ us hl => match us, hl with | [_], _ => rfl) (fun vs H Q E h => ?_) (fun cdv A outer s H vs Q E hr h => ?_)
  · obtain ⟨a, c, n, t, rfl, _⟩ := h
    rfl
  · obtain ⟨a, c, n, t, rfl, hb, wf, ht, k⟩ := h
    have hu := hu_of hr
    refine ⟨_, (pss_one (ps_ret (pe_listEnum rfl (pe_fld (pv 0) rfl) (by rfl) (z_list T) (by rfl) (z_enumerate T)))), ?_⟩
    obtain ⟨b, l, g⟩ := t
    cases b <;> try cases hb
    rename_i xs
    obtain ⟨dx, v, ho, rfl, vs, hc, r2⟩ := ht
    refine ⟨_, rfl, a, _, dx, _, _, rfl, ho, c_Row T, n_Row_cells T, thF_cells, c, vs, rfl, SqL.of hc, fun H' p ts kp np _ _ hp hpr => k p H' kp np ⟨ts, hp, ?_⟩⟩
    show Paired _ ts (xs.zipIdx.map fun p => ((.inl (p.2 : Int) : Key), p.1))
    rw [← enK_zip xs 0]
    exact Paired.comp (fun t q p h1 h2 => ⟨q.2, by rw [← h2.1]; exact h1, VR.mono (Same.tup kp) h2.2⟩) hpr (enK_pair 0 r2)
theorem ok_Watch_shown {f : Addr} (T : Tx w K mg) (F : ∃ fd, FunD K "shown" "Watch.shown" (defArgs s_Watch_shown) (defBody s_Watch_shown) (defScope s_Watch_shown) [] [] f fd)  : DefOk ⟨P, w, K, mg, base⟩ 1 f ["self"] (spShown K Body.isWat) := by
  refine DefOk.mk' F sc_Watch_shown (fun _ _ _ _ _ _ us hl => match us, hl with | [_], _ => rfl) (fun vs H Q E h => ?_) (fun cdv A outer s H vs Q E hr h => ?_)
  · obtain ⟨a, c, n, t, rfl, _⟩ := h
    rfl
  · obtain ⟨a, c, n, t, rfl, hb, wf, ht, k⟩ := h
    have hu := hu_of hr
    refine ⟨_, (pss_one (ps_ret (pe_lst (pa_cons (pe_tup (pa_cons pe_str (pa_cons (pe_fld (pv 0) rfl) pa_nil))) pa_nil)))), ?_⟩
    obtain ⟨b, l, g⟩ := t
    cases b <;> try cases hb
    rename_i s' g'
    obtain ⟨dx, v, ho, hv⟩ := ht
    refine ⟨_, rfl, a, _, dx, _, _, rfl, ho, c_Watch T, n_Watch_sees T, thF_sees, by show 2 ≤ sizeLine; decide, fun q hq => ⟨by show 1 ≤ sizeLine; decide, fun D hD => ?_⟩⟩
    have nDq : D ≠ q := fun e => by rw [e, upd_same] at hD; cases hD
    have hD0 : H D = none := by rw [upd_ne nDq] at hD; exact hD
    have s1 : Same H (upd (upd H q (.tup [.str "sees", v])) D (.lst [.ref q])) := same_mut (same_new hq) hD0
    exact k D _ s1 hD0 ⟨[q], upd_same, .cons ⟨v, by rw [upd_ne nDq.symm]; exact upd_same, VR.mono (Same.tup s1) hv⟩ .nil⟩
/-- held -/
def spHeld (K : PySem.W.Frag) (p : Body → Bool) : Sp := fun vs H Q _ => ∃ (a c : Addr) (n : Nat) (t : Th), vs = [.ref a] ∧ p t.body = true ∧ t.body.wf ∧ ThAt K H a c n t ∧ ∀ l H', Same H H' → H l = none → H' l = some (.lst (t.body.held.map fun (k : Nat) => V.int (k : Int))) → Q (.ref l) H'
theorem ok_Thing_held {f : Addr} (T : Tx w K mg) (F : ∃ fd, FunD K "held" "Thing.held" (defArgs s_Thing_held) (defBody s_Thing_held) (defScope s_Thing_held) [] [] f fd)  : DefOk ⟨P, w, K, mg, base⟩ 2 f ["self"] (spHeld K Body.isWat) := by
  refine DefOk.mk' F sc_Thing_held (fun _ _ _ _ _ _ us hl => match us, hl with | [_], _ => rfl) (fun vs H Q E h => ?_) (fun cdv A outer s H vs Q E hr h => ?_)
  · obtain ⟨a, c, n, t, rfl, _⟩ := h
    rfl
  · obtain ⟨a, c, n, t, rfl, hb, wf, ht, k⟩ := h
    have hu := hu_of hr
    refine ⟨_, (pss_one (ps_ret (pe_lst pa_nil))), ?_⟩
    obtain ⟨b, l, g⟩ := t
    cases b <;> try cases hb
    exact ⟨by decide, fun D hD => k D _ (same_new hD) hD upd_same⟩
theorem like_rec {x : List (Key × V)} {b : Body} (h : (Body.dic true x).like b = true) : isRec b = true := by
  cases b with
  | dic r y =>
    cases r
    · cases h
    · rfl
  | row y => cases h
  | wat y z => cases h
theorem like_book {x : List (Key × V)} {b : Body} (h : (Body.dic false x).like b = true) : isBook b = true := by
  cases b with
  | dic r y =>
    cases r
    · rfl
    · cases h
  | row y => cases h
  | wat y z => cases h
theorem like_dic {r : Bool} {x : List (Key × V)} {b : Body} (h : (Body.dic r x).like b = true) : b.isDic = true := by
  cases b with
  | dic r y => rfl
  | row y => cases r <;> cases h
  | wat y z => cases r <;> cases h
theorem like_row {x : List V} {b : Body} (h : (Body.row x).like b = true) : b.isRow = true := by
  cases b with
  | dic r y => cases r <;> cases h
  | row y => rfl
  | wat y z => cases h
theorem like_wat {s : Nat} {g : Bool} {b : Body} (h : (Body.wat s g).like b = true) : b.isWat = true := by
  cases b with
  | dic r y => cases r <;> cases h
  | row y => cases h
  | wat y z => rfl
theorem ok_shown_b (T : Tx w K mg) : (b : Body) → DefOk ⟨P, w, K, mg, base⟩ 1 (ma K (ga K b.cls) "shown") ["self"] (spShown K b.like)
  | .dic true _ => (ok_Record_shown T (f_Record_shown T)).imp fun vs H Q E ⟨a, c, n, t, e, hb, r⟩ => ⟨a, c, n, t, e, like_rec hb, r⟩
  | .dic false _ => (ok_Book_shown T (f_Book_shown T)).imp fun vs H Q E ⟨a, c, n, t, e, hb, r⟩ => ⟨a, c, n, t, e, like_book hb, r⟩
  | .row _ => (ok_Row_shown T (f_Row_shown T)).imp fun vs H Q E ⟨a, c, n, t, e, hb, r⟩ => ⟨a, c, n, t, e, like_row hb, r⟩
  | .wat _ _ => (ok_Watch_shown T (f_Watch_shown T)).imp fun vs H Q E ⟨a, c, n, t, e, hb, r⟩ => ⟨a, c, n, t, e, like_wat hb, r⟩
theorem ok_has_b (T : Tx w K mg) : (b : Body) → DefOk ⟨P, w, K, mg, base⟩ 1 (ma K (ga K b.cls) "has") ["self", "part"] (spHas K b.like)
  | .dic true _ => (ok_Holder_has T (f_Record_has T)).imp fun vs H Q E ⟨a, c, n, t, k, e, hb, r⟩ => ⟨a, c, n, t, k, e, like_dic hb, r⟩
  | .dic false _ => (ok_Holder_has T (f_Book_has T)).imp fun vs H Q E ⟨a, c, n, t, k, e, hb, r⟩ => ⟨a, c, n, t, k, e, like_dic hb, r⟩
  | .row _ => (ok_Row_has T (f_Row_has T)).imp fun vs H Q E ⟨a, c, n, t, k, e, hb, r⟩ => ⟨a, c, n, t, k, e, like_row hb, r⟩
  | .wat _ _ => (ok_Thing_has T (f_Watch_has T)).imp fun vs H Q E ⟨a, c, n, t, k, e, hb, r⟩ => ⟨a, c, n, t, k, e, like_wat hb, r⟩
theorem ok_fits_b (T : Tx w K mg) : (b : Body) → DefOk ⟨P, w, K, mg, base⟩ 1 (ma K (ga K b.cls) "fits") ["self", "part"] (spFits K b.like)
  | .dic true _ => (ok_Record_fits T (f_Record_fits T)).imp fun vs H Q E ⟨a, c, n, t, k, e, hb, r⟩ => ⟨a, c, n, t, k, e, like_rec hb, r⟩
  | .dic false _ => (ok_Book_fits T (f_Book_fits T)).imp fun vs H Q E ⟨a, c, n, t, k, e, hb, r⟩ => ⟨a, c, n, t, k, e, like_book hb, r⟩
  | .row _ => (ok_Row_fits T (f_Row_fits T)).imp fun vs H Q E ⟨a, c, n, t, k, e, hb, r⟩ => ⟨a, c, n, t, k, e, like_row hb, r⟩
  | .wat _ _ => (ok_Thing_fits T (f_Watch_fits T)).imp fun vs H Q E ⟨a, c, n, t, k, e, hb, r⟩ => ⟨a, c, n, t, k, e, like_wat hb, r⟩
theorem ok_size_b (T : Tx w K mg) : (b : Body) → DefOk ⟨P, w, K, mg, base⟩ 1 (ma K (ga K b.cls) "size") ["self"] (spSize K b.like)
  | .dic true _ => (ok_Record_size T (f_Record_size T)).imp fun vs H Q E ⟨a, c, n, t, e, hb, r⟩ => ⟨a, c, n, t, e, like_rec hb, r⟩
  | .dic false _ => (ok_Book_size T (f_Book_size T)).imp fun vs H Q E ⟨a, c, n, t, e, hb, r⟩ => ⟨a, c, n, t, e, like_book hb, r⟩
  | .row _ => (ok_Row_size T (f_Row_size T)).imp fun vs H Q E ⟨a, c, n, t, e, hb, r⟩ => ⟨a, c, n, t, e, like_row hb, r⟩
  | .wat _ _ => (ok_Watch_size T (f_Watch_size T)).imp fun vs H Q E ⟨a, c, n, t, e, hb, r⟩ => ⟨a, c, n, t, e, like_wat hb, r⟩
theorem ok_at_b (T : Tx w K mg) : (b : Body) → b.isWat = false → DefOk ⟨P, w, K, mg, base⟩ 1 (ma K (ga K b.cls) "at") ["self", "part"] (spAt K b.like)
  | .dic true _, _ => (ok_Holder_at T (f_Record_at T)).imp fun vs H Q E ⟨a, c, n, t, k, e, hb, r⟩ => ⟨a, c, n, t, k, e, like_dic hb, r⟩
  | .dic false _, _ => (ok_Holder_at T (f_Book_at T)).imp fun vs H Q E ⟨a, c, n, t, k, e, hb, r⟩ => ⟨a, c, n, t, k, e, like_dic hb, r⟩
  | .row _, _ => (ok_Row_at T (f_Row_at T)).imp fun vs H Q E ⟨a, c, n, t, k, e, hb, r⟩ => ⟨a, c, n, t, k, e, like_row hb, r⟩
  | .wat _ _, h => nomatch h
theorem ok_put_b (T : Tx w K mg) : (b : Body) → b.isWat = false → DefOk ⟨P, w, K, mg, base⟩ 1 (ma K (ga K b.cls) "put") ["self", "part", "value"] (spPut K b.like)
  | .dic true _, _ => (ok_Holder_put T (f_Record_put T)).imp fun vs H Q E ⟨a, c, n, t, k, v, x, e, hb, r⟩ => ⟨a, c, n, t, k, v, x, e, like_dic hb, r⟩
  | .dic false _, _ => (ok_Holder_put T (f_Book_put T)).imp fun vs H Q E ⟨a, c, n, t, k, v, x, e, hb, r⟩ => ⟨a, c, n, t, k, v, x, e, like_dic hb, r⟩
  | .row _, _ => (ok_Row_put T (f_Row_put T)).imp fun vs H Q E ⟨a, c, n, t, k, v, x, e, hb, r⟩ => ⟨a, c, n, t, k, v, x, e, like_row hb, r⟩
  | .wat _ _, h => nomatch h
theorem ok_cut_b (T : Tx w K mg) : (b : Body) → b.isWat = false → DefOk ⟨P, w, K, mg, base⟩ 1 (ma K (ga K b.cls) "cut") ["self", "part"] (spCut K b.like)
  | .dic true _, _ => (ok_Record_cut T (f_Record_cut T)).imp fun vs H Q E ⟨a, c, n, t, k, e, hb, r⟩ => ⟨a, c, n, t, k, e, like_rec hb, r⟩
  | .dic false _, _ => (ok_Book_cut T (f_Book_cut T)).imp fun vs H Q E ⟨a, c, n, t, k, e, hb, r⟩ => ⟨a, c, n, t, k, e, like_book hb, r⟩
  | .row _, _ => (ok_Row_cut T (f_Row_cut T)).imp fun vs H Q E ⟨a, c, n, t, k, e, hb, r⟩ => ⟨a, c, n, t, k, e, like_row hb, r⟩
  | .wat _ _, h => nomatch h
theorem ok_Holder_held {f : Addr} (T : Tx w K mg) (F : ∃ fd, FunD K "held" "Holder.held" (defArgs s_Holder_held) (defBody s_Holder_held) (defScope s_Holder_held) [] [] f fd)  : DefOk ⟨P, w, K, mg, base⟩ 2 f ["self"] (spHeld K (fun b => b.isDic || b.isRow)) := by
  refine DefOk.mk' F sc_Holder_held (fun _ _ _ _ _ _ us hl => match us, hl with | [_], _ => rfl) (fun vs H Q E h => ?_) (fun cdv A outer s H vs Q E hr h => ?_)
  · obtain ⟨a, c, n, t, rfl, _⟩ := h
    rfl
  · obtain ⟨a, c, n, t, rfl, hb, wf, ht, k⟩ := h
    have hu := hu_of hr
    refine ⟨_, (pss_one (ps_ret (pe_lc (own := [("_", 1), ("value", 2)]) (g := (gTup K 2 (gCons (gName 1) (gCons (gName 2) gNil)))) rfl sc_Holder_held.nd (pi_list (pe_md0 (M := ⟨P, w, K, mg, base⟩) rfl hr (pv 0))) (blkOk_by (own := [("_", 1), ("value", 2)]) (N := ["self", "_", "value"]) (sc := defScope s_Holder_held) (by decide +kernel)) (fun _ _ _ _ _ => (pg_tupK (K := K) rfl rfl (pgs_cons (pg_name (i := 1) sc_Holder_held.nd rfl (Or.inl rfl)) (pgs_cons (pg_name (i := 2) sc_Holder_held.nd rfl (Or.inl rfl)) pgs_nil)))) (fun _ _ _ _ _ => by exact (pts_one (pt_val (pe_cg (M := ⟨P, w, K, mg, base⟩) rfl hr rfl (pa_cons (pv 2) pa_nil))))) (fun _ _ _ _ _ => by exact (pe_ix (ixK rIxT rfl ix_tup) (pv 2) pe_int (fun _ _ => rfl)))))), ?_⟩
    have nW : t.body.isWat = false := by
      cases e : t.body <;> rw [e] at hb <;> first | rfl | cases hb
    obtain ⟨dx, v, ho, hv⟩ := id ht
    refine ⟨_, rfl, a, _, dx, _, _, _, _, _, rfl, ho, thF_no_shown t.body, b_cls T t.body, bt_shown T t.body, ok_shown_b T t.body, by decide, ?_⟩
    refine ⟨a, c, n, t, rfl, t.body.like_refl, wf, ht, fun l H1 s1 nl hs => ?_⟩
    obtain ⟨ts, hl, hp⟩ := hs
    refine ⟨l, rfl, ⟨_, SqL.of hl⟩, fun D hD => ?_⟩
    have hD0 : H D = none := s1.free hD
    refine lc_list (K := K) (a := l) (xs := ts.map V.ref) (fun i H' => Same H1 H' ∧ H' D = some (.lst ((refs ((t.body.shown.take i).map (·.2))).map fun (k : Nat) => V.int (k : Int))))
      ⟨same_new hD, upd_same⟩ (fun i H' _ h => SqL.of (h.1 _ _ hl)) ?_ ?_
    · rintro i x H' hi ⟨s2, e2⟩
      rw [List.getElem?_map] at hi
      obtain ⟨q, hq, rfl⟩ := Option.map_eq_some_iff.mp hi
      rcases Paired.at i hp with ⟨z, _⟩ | ⟨q', pr, e3, e4, u, h5, h6⟩
      · rw [hq] at z; cases z
      rw [hq] at e3; cases e3
      obtain ⟨pk, pv⟩ := pr
      have h6' : VR H' u pv := VR.mono (Same.tup s2) h6
      have nxt : (t.body.shown.take (i + 1)).map (·.2) = (t.body.shown.take i).map (·.2) ++ [pv] := by
        rw [take_snoc e4, List.map_append]; rfl
      have lenb : (refs ((t.body.shown.take i).map (·.2))).length ≤ 8 := by
        refine Nat.le_trans (List.length_filterMap_le _ _) ?_
        rw [List.length_map, List.length_take]
        have := t.body.shown_len wf
        omega
      refine ⟨q, _, rfl, SqT.of (s2 _ _ h5), rfl, _, _, rfl, _, _, rfl, rfl, rfl, ?_⟩
      refine ⟨_, _, _, _, g_is_thing T, ok_is_thing T, by decide, _, rfl, u, pv, rfl, h6', _, rfl, ?_⟩
      rcases h6'.cases with ⟨rfl, rfl⟩ | ⟨j, rfl, rfl⟩ | ⟨b, m, rfl, rfl, e⟩
      · refine iteF ⟨s2, ?_⟩
        rw [nxt, refs_app, e2]
        show _ = some (HO.lst ((_ ++ []).map _))
        rw [List.append_nil]
      · refine iteF ⟨s2, ?_⟩
        rw [nxt, refs_app, e2]
        show _ = some (HO.lst ((_ ++ []).map _))
        rw [List.append_nil]
      · refine iteT ⟨_, rfl, b, _, 1, _, rfl, rfl, SqT.of e, atI_nat (j := 1) rfl, _, e2, szl (by rw [List.length_map]; omega), ?_⟩
        refine ⟨same_mut s2 hD, ?_⟩
        rw [nxt, refs_app]
        show _ = some (HO.lst ((_ ++ [m]).map _))
        rw [List.map_append]
        exact upd_same
    · rintro H' ⟨s2, e2⟩
      refine k D H' (s1.trans s2) hD0 ?_
      have ln : (ts.map V.ref).length = t.body.shown.length := by rw [List.length_map]; exact Paired.length hp
      rw [e2, Body.held_eq nW, List.take_of_length_le (Nat.le_of_eq ln.symm)]
theorem ok_held_b (T : Tx w K mg) : (b : Body) → DefOk ⟨P, w, K, mg, base⟩ 2 (ma K (ga K b.cls) "held") ["self"] (spHeld K b.like)
  | .dic true _ => (ok_Holder_held T (f_Record_held T)).imp fun vs H Q E ⟨a, c, n, t, e, hb, r⟩ => ⟨a, c, n, t, e, by show (t.body.isDic || t.body.isRow) = true; rw [like_dic hb]; rfl, r⟩
  | .dic false _ => (ok_Holder_held T (f_Book_held T)).imp fun vs H Q E ⟨a, c, n, t, e, hb, r⟩ => ⟨a, c, n, t, e, by show (t.body.isDic || t.body.isRow) = true; rw [like_dic hb]; rfl, r⟩
  | .row _ => (ok_Holder_held T (f_Row_held T)).imp fun vs H Q E ⟨a, c, n, t, e, hb, r⟩ => ⟨a, c, n, t, e, by show (t.body.isDic || t.body.isRow) = true; rw [like_row hb, Bool.or_true], r⟩
  | .wat _ _ => (ok_Thing_held T (f_Watch_held T)).imp fun vs H Q E ⟨a, c, n, t, e, hb, r⟩ => ⟨a, c, n, t, e, like_wat hb, r⟩
end
end WK
namespace WK
open PySem PySem.Spec PyProof.Rows L2 He WB
section
variable {P : Program} {w : World} {K : PySem.W.Frag} {mg : Str → Option Value} {base : Heap}
abbrev nxS (S : Sta) : Nat → List Nat := fun j => (S.th j).body.held
/-- the things among which is sought: a dict by numbers, or a list of them -/
def AmD (H : Hp) (b : Addr) (am : List Nat) : Prop := ∃ kvs, H b = some (.dK kvs) ∧ kvs.map (·.1) = am.map fun (k : Nat) => (.inl (k : Int) : Key)
def spSpread (K : PySem.W.Frag) : Sp := fun vs H Q _ => ∃ (h : Addr) (S : Sta) (live : List Nat) (O : List Addr) (a b : Addr) (st am : List Nat), vs = [.ref h, .ref a, .ref b] ∧ HeapAt K H h S live O ∧ (∀ k ∈ live, (S.th k).body.wf) ∧
  SqL K H a (nV st) ∧ AmD H b am ∧ (∀ k ∈ am, k ∈ live) ∧ am.length ≤ 1000 ∧ st.length ≤ 1000 ∧
  ∀ (D : Addr) (H' : Hp) (ks : List Nat), Same H H' → H D = none → H' D = some (.dK (foundD ks)) → ks.Nodup → (∀ k, k ∈ ks ↔ Rch (nxS S) (· ∈ am) st k) → Q (.ref D) H'
theorem Rch.inAm {nx : Nat → List Nat} {am st F W : List Nat} (s : Seek nx (· ∈ am) st F W) : F.length ≤ am.length := nodup_sub_len s.nd fun k hk => (s.fr k hk).am
theorem ok_Heap_spread {f : Addr} (T : Tx w K mg) (F : ∃ fd, FunD K "spread" "Heap.spread" (defArgs s_Heap_spread) (defBody s_Heap_spread) (defScope s_Heap_spread) [] [] f fd)  : DefOk ⟨P, w, K, mg, base⟩ 3 f ["self", "starts", "among"] (spSpread K) := by
  refine DefOk.mk' F sc_Heap_spread (fun _ _ _ _ _ _ us hl => match us, hl with | [_, _, _], _ => rfl) (fun vs H Q E h => ?_) (fun cdv A outer s H vs Q E hr h => ?_)
  · obtain ⟨h, S, live, O, a, b, st, am, rfl, _⟩ := h
    rfl
  · obtain ⟨h, S, live, O, a, b, st, am, rfl, hH, wf, ha, ⟨kvs, hb, hk⟩, sub, am1, st1, k⟩ := h
    have hu := hu_of hr
    refine ⟨_, (pss_cons (ps_set (i := 3) sc_Heap_spread.nd rfl (Or.inl rfl) pe_dnewK) (pss_cons (ps_set (i := 4) sc_Heap_spread.nd rfl (Or.inl rfl) (pe_callTy call_list_of (by rfl) (z_list T) (by decide +kernel) (pa_cons (pv 1) pa_nil))) (pss_cons (ps_while PassesOwn.never (pt_truth (pv 4) (by intro _; rfl)) (pss_cons (ps_set (i := 5) sc_Heap_spread.nd rfl (Or.inl rfl) (pe_bm0 PySem.F.plainAttrs_list PySem.F.slot_list_pop PySem.F.type_list_pop mt_pop (pv 4))) (pss_one (ps_if (PW.pt (pw_and (pt_cmp (pc_din hu (pv 5) (pv 2))) (pw_and1 (pt_cmp (pc_dnotin hu (pv 5) (pv 3)))))) (pss_cons (ps_dput hu (pv 3) (pv 5) pe_bl rfl) (pss_one (ps_expr (pe_bm PySem.F.plainAttrs_list PySem.F.slot_list_extend PySem.F.type_list_extend mt_extend (pv 4) (pa_cons (pe_md0 (M := ⟨P, w, K, mg, base⟩) rfl hr (pe_dget hu (pe_fld (pv 0) rfl) (pv 5) (fun _ _ => rfl))) pa_nil))))) pss_nil)))) (pss_one (ps_ret (pv 3)))))), ?_⟩
    obtain ⟨dh, n, t, ch, A', C', vs, e1, e2, e3, e4, e5, e6, e7⟩ := id hH
    refine fun D hD => ?_
    have s0 : Same H (upd H D (.dK [])) := same_new hD
    refine ⟨_, rfl, a, _, rfl, .inl (s0.seq ha), fun W hW => ?_⟩
    have hW0 : H W = none := s0.free hW
    have nDW : D ≠ W := fun e => by rw [← e, upd_same] at hW; cases hW
    refine ⟨fun m σ H' => ∃ (F Wt : List Nat) (x : Option V), σ = [some (.ref h), some (.ref a), some (.ref b), some (.ref D), some (.ref W), x] ∧ Same H H' ∧ H' D = some (.dK (foundD F)) ∧ H' W = some (.lst (nV Wt)) ∧
      Seek (nxS S) (· ∈ am) st F Wt ∧ Wt.length ≤ 1000 + 8 * F.length ∧ m = 9 * (am.length - F.length) + Wt.length, ?_, ?_⟩
    · exact ⟨_, [], st, none, rfl, same_mut s0 hW0, by rw [upd_ne nDW]; exact upd_same, upd_same, Seek.init, by omega, rfl⟩
    · rintro m σ H' ⟨F, Wt, x, rfl, s1, f1, f2, sk, l1, rfl⟩
      have lF := Rch.inAm sk
      refine ⟨_, rfl, _, .inl ⟨_, SqL.of f2, rfl⟩, ?_⟩
      rcases List.eq_nil_or_concat Wt with rfl | ⟨W', x', rfl⟩
      · exact ⟨_, rfl, k D H' F s1 hD f1 sk.nd sk.done⟩
      have eb : (!(nV (W' ++ [x'])).isEmpty) = true := by simp [nV]
      rw [List.concat_eq_append] at *
      rw [eb]
      refine ⟨fun σ' H2 => ∃ (F2 Wt2 : List Nat) (x : Option V), σ' = [some (.ref h), some (.ref a), some (.ref b), some (.ref D), some (.ref W), x] ∧ Same H H2 ∧ H2 D = some (.dK (foundD F2)) ∧ H2 W = some (.lst (nV Wt2)) ∧
        Seek (nxS S) (· ∈ am) st F2 Wt2 ∧ Wt2.length ≤ 1000 + 8 * F2.length ∧ 9 * (am.length - F2.length) + Wt2.length < 9 * (am.length - F.length) + (W' ++ [x']).length, ?_, ?_⟩
      · rintro σ' H2 ⟨F2, Wt2, x2, p1, p2, p3, p4, p5, p6, p7⟩
        exact ⟨_, p7, F2, Wt2, x2, p1, p2, p3, p4, p5, p6, rfl⟩
      have hx : (nV (W' ++ [x']))[(nV (W' ++ [x'])).length - 1]? = some (.int (x' : Int)) := by simp [nV]
      have hd : (nV (W' ++ [x'])).dropLast = nV W' := by simp [nV]
      refine ⟨_, rfl, .inl ⟨rfl, _, SqL.of f2⟩, W, _, _, rfl, rfl, f2, hx, ?_⟩
      rw [hd]
      have s2 : Same H (upd H' W (.lst (nV W'))) := same_mut s1 hW0
      have f1' : upd H' W (.lst (nV W')) D = some (.dK (foundD F)) := by rw [upd_ne nDW]; exact f1
      have q1 := val_keys hk x'
      have q2 := val_keys (foundD_keys F) x'
      rw [List.length_append, List.length_singleton] at l1
      refine ⟨_, rfl, _, rfl, b, _, rfl, DGet.k (k := .inl (x' : Int)) (s2 _ _ hb), _, rfl, ?_⟩
      rw [q1]
      by_cases hka : x' ∈ am
      · rw [decide_eq_true hka]
        refine ⟨_, rfl, _, rfl, D, _, rfl, DGet.k (k := .inl (x' : Int)) f1', _, rfl, ?_⟩
        rw [q2]
        by_cases hkf : x' ∈ F
        · rw [decide_eq_true hkf]
          refine ⟨F, W', _, rfl, s2, f1', upd_same, sk.skip (fun z => z.2 hkf), by omega, ?_⟩
          rw [List.length_append, List.length_singleton]; omega
        · rw [decide_eq_false hkf]
          have hxl := sub x' hka
          have lF2 : F.length + 1 ≤ am.length := by
            have := Rch.inAm (sk.take hka hkf)
            rwa [List.length_append, List.length_singleton] at this
          have fl : (foundD F).length = F.length := by unfold foundD; rw [List.length_map]
          refine ⟨_, rfl, _, rfl, D, _, rfl, DPut.k (k := .inl (x' : Int)) f1' (szl (by rw [fl]; omega)), ?_⟩
          rw [foundD_put hkf]
          have s3 : Same H (upd (upd H' W (.lst (nV W'))) D (.dK (foundD (F ++ [x'])))) := same_mut s2 hD
          obtain ⟨dx, pv, g1, g2⟩ := (e5 x' hxl).same s3
          refine ⟨_, rfl, .inl ⟨rfl, _, SqL.of (by rw [upd_ne nDW.symm]; exact upd_same)⟩, ?_⟩
          refine ⟨_, rfl, h, _, dh, _, _, rfl, s3 _ _ e1, c_Heap T, n_Heap_things T, heF_things, _, rfl, t, .ref (A' x'), rfl, (by rw [← val_live (A := A') hxl]; exact DGet.k (k := .inl (x' : Int)) (s3 _ _ e4)), ?_⟩
          refine ⟨A' x', _, dx, _, _, _, _, _, rfl, g1, thF_no_held _, b_cls T _, bt_held T _, ok_held_b T _, by decide, ?_⟩
          refine ⟨A' x', C' x', x', S.th x', rfl, Body.like_refl _, wf x' hxl, ⟨dx, pv, g1, g2⟩, fun l H3 s4 nl hl => ?_⟩
          have lh := Body.held_len (wf x' hxl)
          have hW3 : H3 W = some (.lst (nV W')) := s4 _ _ (by rw [upd_ne nDW.symm]; exact upd_same)
          have lW : (nV W').length = W'.length := List.length_map _
          refine ⟨W, l, _, _, rfl, rfl, hW3, hl, Nat.le_trans (show _ ≤ 20000 by rw [lW, List.length_map]; omega) (by decide), ?_⟩
          refine ⟨F ++ [x'], W' ++ (S.th x').body.held, _, rfl, same_mut (s3.trans s4) hW0, ?_, ?_, sk.take hka hkf, ?_, ?_⟩
          · rw [upd_ne nDW]; exact s4 _ _ upd_same
          · unfold nV; rw [List.map_append]; exact upd_same
          · rw [List.length_append, List.length_append, List.length_singleton]; omega
          · rw [List.length_append, List.length_append, List.length_append, List.length_singleton]; omega
      · rw [decide_eq_false hka]
        refine ⟨F, W', _, rfl, s2, f1', upd_same, sk.skip (fun z => hka z.1), by omega, ?_⟩
        rw [List.length_append, List.length_singleton]; omega
end
end WK
namespace WK
open PySem PySem.Spec PyProof.Rows L2 He WB
section
variable {P : Program} {w : World} {K : PySem.W.Frag} {mg : Str → Option Value} {base : Heap}
theorem lock_same {H H' : Hp} {d : Addr} {u : HO} {od : Obj} (h : H d = some u) (s : Same (upd H d (.frz od u)) H') : Same H (upd H' d u) := fun b o e => by
  by_cases q : b = d
  · subst q; rw [upd_same, ← h]; exact e
  · rw [upd_ne q]; exact s b o (by rw [upd_ne q]; exact e)
theorem lock_tup {H : Hp} {d : Addr} {u o : HO} (h : H d = some u) (hn : still u = false) : Tup H (upd H d o) := tup_upd (by rw [h]; intro xs z; cases z; exact hn)
def St0.nums (S : Sta) : List Nat := refs (S.names.map (·.2))
def spNamed (K : PySem.W.Frag) : Sp := fun vs H Q _ => ∃ (h : Addr) (S : Sta) (live : List Nat) (O : List Addr), vs = [.ref h] ∧ HeapAt K H h S live O ∧ S.names.length ≤ 8 ∧
  ∀ l H', Same H H' → H l = none → H' l = some (.lst (nV (St0.nums S))) → Q (.ref l) H'
theorem ok_Heap_named {f : Addr} (T : Tx w K mg) (F : ∃ fd, FunD K "named" "Heap.named" (defArgs s_Heap_named) (defBody s_Heap_named) (defScope s_Heap_named) [] [] f fd)  : DefOk ⟨P, w, K, mg, base⟩ 2 f ["self"] (spNamed K) := by
  refine DefOk.mk' F sc_Heap_named (fun _ _ _ _ _ _ us hl => match us, hl with | [_], _ => rfl) (fun vs H Q E h => ?_) (fun cdv A outer s H vs Q E hr h => ?_)
  · obtain ⟨h, S, live, O, rfl, _⟩ := h
    rfl
  · obtain ⟨h, S, live, O, rfl, hH, n8, k⟩ := h
    have hu := hu_of hr
    refine ⟨_, (pss_one (ps_ret (pe_lock (pe_lc (own := [("value", 1)]) (g := (gName 1)) rfl sc_Heap_named.nd (pi_values (pe_fld (pv 0) rfl)) (blkOk_by (own := [("value", 1)]) (N := ["self", "value"]) (sc := defScope s_Heap_named) (by decide +kernel)) (fun _ _ _ _ _ => (pg_name (i := 1) sc_Heap_named.nd rfl (Or.inl rfl))) (fun _ _ _ _ _ => by exact (pts_one (pt_val (pe_cg (M := ⟨P, w, K, mg, base⟩) rfl hr rfl (pa_cons (pv 1) pa_nil))))) (fun _ _ _ _ _ => by exact (pe_ix (ixK rIxT rfl ix_tup) (pv 1) pe_int (fun _ _ => rfl))))))), ?_⟩
    obtain ⟨dh, n, t, ch, A', C', vs, e1, e2, e3, e4, e5, e6, e7⟩ := id hH
    have nhn : h ≠ n := ne_of e1 e2 (by intro z; cases z)
    refine ⟨n, _, e2, trivial, fun od => ?_⟩
    have tp : Tup H (upd H n (.frz od (.dK vs))) := lock_tup e2 rfl
    have lv := KVR.length e3
    refine ⟨_, rfl, h, _, dh, _, _, rfl, (by rw [upd_ne nhn]; exact e1), c_Heap T, n_Heap_names T, heF_names, n, od, vs, rfl, upd_same, fun D hD => ?_⟩
    have hD0 : H D = none := by
      have : D ≠ n := fun e => by rw [e, upd_same] at hD; cases hD
      rw [upd_ne this] at hD; exact hD
    have nDn : D ≠ n := fun e => by rw [e, upd_same] at hD; cases hD
    refine lc_it walk_values (fun i H' => Same (upd H n (.frz od (.dK vs))) H' ∧ H' D = some (.lst (nV (refs ((S.names.take i).map (·.2)))))) ⟨same_new hD, upd_same⟩ (fun i H' _ h => h.1 _ _ upd_same) ?_ ?_
    · rintro i x H1 H2 hi ⟨s2, e2'⟩ ⟨rfl, y, hy⟩
      rcases Paired.at i e3 with ⟨z, _⟩ | ⟨p, q, g1, g2, _, rv⟩
      · rw [hy] at z; cases z
      rw [hy] at g1; cases g1
      obtain ⟨qk, qv⟩ := q
      have rv' : VR H2 x qv := VR.mono (tp.trans (Same.tup s2)) rv
      have nxt : (S.names.take (i + 1)).map (·.2) = (S.names.take i).map (·.2) ++ [qv] := by
        rw [take_snoc g2, List.map_append]; rfl
      have lenb : (refs ((S.names.take i).map (·.2))).length ≤ 8 := by
        refine Nat.le_trans (List.length_filterMap_le _ _) ?_
        rw [List.length_map, List.length_take]; omega
      refine ⟨rfl, ?_⟩
      refine ⟨_, _, _, _, g_is_thing T, ok_is_thing T, by decide, _, rfl, x, qv, rfl, rv', _, rfl, ?_⟩
      rcases rv'.cases with ⟨rfl, rfl⟩ | ⟨j, rfl, rfl⟩ | ⟨b, m, rfl, rfl, e⟩
      · refine iteF ⟨s2, ?_⟩
        rw [nxt, refs_app, e2']
        show _ = some (HO.lst (nV (_ ++ [])))
        rw [List.append_nil]
      · refine iteF ⟨s2, ?_⟩
        rw [nxt, refs_app, e2']
        show _ = some (HO.lst (nV (_ ++ [])))
        rw [List.append_nil]
      · refine iteT ⟨_, rfl, b, _, 1, _, rfl, rfl, SqT.of e, atI_nat (j := 1) rfl, _, e2', szl (by unfold nV; rw [List.length_map]; omega), ?_⟩
        refine ⟨same_mut s2 hD, ?_⟩
        rw [nxt, refs_app]
        show _ = some (HO.lst (nV (_ ++ [m])))
        unfold nV
        rw [List.map_append]
        exact upd_same
    · rintro H' ⟨s2, e2'⟩
      refine ⟨s2 _ _ upd_same, ?_⟩
      rw [List.take_of_length_le (Nat.le_of_eq lv.symm)] at e2'
      exact k D _ (lock_same e2 s2) hD0 (by rw [upd_ne nDn]; exact e2')
def Reach (S : Sta) (live : List Nat) : Nat → Prop := Rch (nxS S) (· ∈ live) (St0.nums S)
def spReach (K : PySem.W.Frag) : Sp := fun vs H Q _ => ∃ (h : Addr) (S : Sta) (live : List Nat) (O : List Addr), vs = [.ref h] ∧ HeapAt K H h S live O ∧ S.names.length ≤ 8 ∧ (∀ k ∈ live, (S.th k).body.wf) ∧ live.length ≤ 1000 ∧
  ∀ (D : Addr) (H' : Hp) (ks : List Nat), Same H H' → H D = none → H' D = some (.dK (foundD ks)) → ks.Nodup → (∀ k, k ∈ ks ↔ Reach S live k) → Q (.ref D) H'
theorem ok_Heap_reach (T : Tx w K mg) : DefOk ⟨P, w, K, mg, base⟩ 4 (ma K (ga K "Heap") "reach") ["self"] (spReach K) := by
  refine DefOk.mk' (f_Heap_reach T) sc_Heap_reach (fun _ _ _ _ _ _ us hl => match us, hl with | [_], _ => rfl) (fun vs H Q E h => ?_) (fun cdv A outer s H vs Q E hr h => ?_)
  · obtain ⟨h, S, live, O, rfl, _⟩ := h
    rfl
  · obtain ⟨h, S, live, O, rfl, hH, n8, wf, l1, k⟩ := h
    have hu := hu_of hr
    refine ⟨_, (pss_one (ps_ret (pe_md (M := ⟨P, w, K, mg, base⟩) rfl hr (pv 0) (pa_cons (pe_md0 (M := ⟨P, w, K, mg, base⟩) rfl hr (pv 0)) (pa_cons (pe_fld (pv 0) rfl) pa_nil))))), ?_⟩
    obtain ⟨dh, n, t, ch, A', C', vs, e1, e2, e3, e4, e5, e6, e7⟩ := id hH
    refine ⟨_, rfl, h, _, dh, _, _, _, _, _, rfl, e1, (by kernel_rfl), c_Heap T, t_Heap_spread T, ok_Heap_spread T (f_Heap_spread T), by decide, ?_⟩
    refine ⟨_, rfl, h, _, dh, _, _, _, _, _, rfl, e1, (by kernel_rfl), c_Heap T, t_Heap_named T, ok_Heap_named T (f_Heap_named T), by decide, h, S, live, O, rfl, hH, n8, fun l H1 s1 nl hl => ?_⟩
    refine ⟨_, rfl, h, _, dh, _, _, rfl, s1 _ _ e1, c_Heap T, n_Heap_things T, heF_things, ?_⟩
    refine ⟨h, S, live, O, l, t, St0.nums S, live, rfl, hH.same s1, wf, SqL.of hl, ⟨_, s1 _ _ e4, by rw [List.map_map]; rfl⟩, fun _ h => h, l1, ?_, fun D H2 ks s2 nD hD nd hks => k D H2 ks (s1.trans s2) (s1.free nD) hD nd hks⟩
    refine Nat.le_trans (List.length_filterMap_le _ _) ?_
    rw [List.length_map]; omega
def dues (S : Sta) (live : List Nat) : List Nat := live.filter fun k => (S.th k).last == .due
theorem live_srt {live : List Nat} (h : live.Pairwise (· < ·)) {ys : List Int} (hp : ys.Perm (live.map fun (k : Nat) => (k : Int))) (hs : ys.Pairwise (· ≤ ·)) : ys = live.map fun (k : Nat) => (k : Int) := by
  refine List.Perm.eq_of_pairwise (fun _ _ _ _ a b => Int.le_antisymm a b) hs ?_ hp
  rw [List.pairwise_map]
  exact h.imp fun h => by omega
def spDue (K : PySem.W.Frag) : Sp := fun vs H Q _ => ∃ (h : Addr) (S : Sta) (live : List Nat) (O : List Addr), vs = [.ref h] ∧ HeapAt K H h S live O ∧ live.Pairwise (· < ·) ∧ live.length ≤ 1000 ∧
  ∀ l H', Same H H' → H l = none → H' l = some (.lst (nV (dues S live))) → Q (.ref l) H'
theorem ok_Heap_due_ones (T : Tx w K mg) : DefOk ⟨P, w, K, mg, base⟩ 1 (ma K (ga K "Heap") "due_ones") ["self"] (spDue K) := by
  refine DefOk.mk' (f_Heap_due_ones T) sc_Heap_due_ones (fun _ _ _ _ _ _ us hl => match us, hl with | [_], _ => rfl) (fun vs H Q E h => ?_) (fun cdv A outer s H vs Q E hr h => ?_)
  · obtain ⟨h, S, live, O, rfl, _⟩ := h
    rfl
  · obtain ⟨h, S, live, O, rfl, hH, lp, l1, k⟩ := h
    have hu := hu_of hr
    refine ⟨_, (pss_one (ps_ret (pe_lc (own := [("number", 1)]) (g := (gName 1)) rfl sc_Heap_due_ones.nd (pi_list (pe_callB (cr_sortD rfl) (by rfl) (z_sorted T) (by decide +kernel) (pa_cons (pe_fld (pv 0) rfl) pa_nil))) (blkOk_by (own := [("number", 1)]) (N := ["self", "number"]) (sc := defScope s_Heap_due_ones) (by decide +kernel)) (fun _ _ _ _ _ => (pg_name (i := 1) sc_Heap_due_ones.nd rfl (Or.inl rfl))) (fun _ _ _ _ _ => by exact (pts_one (pt_val (pe_fldK (K := K) rfl (pe_dget hu (pe_fldK (K := K) rfl (pv 0) rfl) (pv 1) (fun _ _ => rfl)) rfl)))) (fun _ _ _ _ _ => by exact (pv 1))))), ?_⟩
    obtain ⟨dh, n, t, ch, A', C', vs, e1, e2, e3, e4, e5, e6, e7⟩ := id hH
    refine ⟨_, rfl, h, _, dh, _, _, rfl, e1, c_Heap T, n_Heap_things T, heF_things, t, _, live.map (fun (k : Nat) => (k : Int)), rfl, .inl e4, by rw [List.map_map, List.map_map]; rfl, fun ys p hp hs np => ?_⟩
    have ey := live_srt lp hp hs
    subst ey
    have s0 : Same H (upd H p (.lst ((live.map fun (k : Nat) => (k : Int)).map V.int))) := same_new np
    refine ⟨_, rfl, ⟨_, SqL.of upd_same⟩, fun D hD => ?_⟩
    have hD0 : H D = none := s0.free hD
    refine lc_list (K := K) (a := p) (xs := (live.map fun (k : Nat) => (k : Int)).map V.int) (fun i H' => Same (upd H p (.lst ((live.map fun (k : Nat) => (k : Int)).map V.int))) H' ∧ H' D = some (.lst (nV (dues S (live.take i)))))
      ⟨same_new hD, upd_same⟩ (fun i H' _ h => SqL.of (h.1 _ _ upd_same)) ?_ ?_
    · rintro i x H1 hi ⟨s1, e8⟩
      rw [List.map_map, List.getElem?_map] at hi
      obtain ⟨j, hj, rfl⟩ := Option.map_eq_some_iff.mp hi
      have hjl : j ∈ live := List.mem_of_getElem? hj
      have s2 := s0.trans s1
      obtain ⟨dx, pv, g1, g2⟩ := (e5 j hjl).same s2
      refine ⟨rfl, ?_⟩
      refine ⟨_, rfl, h, _, dh, _, _, rfl, s2 _ _ e1, c_Heap T, n_Heap_things T, heF_things, _, rfl, t, .ref (A' j), rfl, (by rw [← val_live (A := A') hjl]; exact DGet.k (k := .inl (j : Int)) (s2 _ _ e4)), ?_⟩
      refine ⟨A' j, _, dx, _, _, rfl, g1, b_cls T _, b_due T _, thF_due, _, rfl, ?_⟩
      have nxt : dues S (live.take (i + 1)) = dues S (live.take i) ++ (if (S.th j).last == .due then [j] else []) := by
        unfold dues
        rw [take_snoc hj, List.filter_append]
        congr 1
        by_cases q : ((S.th j).last == .due) = true
        · rw [if_pos q, List.filter_cons, if_pos q]; rfl
        · rw [if_neg q, List.filter_cons, if_neg q]; rfl
      have lenb : (dues S (live.take i)).length ≤ 1000 := Nat.le_trans (List.length_filter_le _ _) (by rw [List.length_take]; omega)
      cases q : (S.th j).last == .due with
      | true =>
        rw [q] at nxt
        refine iteT ⟨_, rfl, _, e8, szl (by unfold nV; rw [List.length_map]; exact lenb), same_mut s1 hD, ?_⟩
        rw [nxt]
        show upd H1 D _ D = some (HO.lst (nV (_ ++ [j])))
        unfold nV
        rw [List.map_append]
        exact upd_same
      | false =>
        rw [q] at nxt
        refine iteF ⟨s1, ?_⟩
        rw [nxt, e8]
        show _ = some (HO.lst (nV (_ ++ [])))
        rw [List.append_nil]
    · rintro H' ⟨s1, e8⟩
      rw [List.take_of_length_le (by rw [List.length_map, List.length_map]; exact Nat.le_refl _)] at e8
      exact k D H' (s0.trans s1) hD0 e8
end
end WK
namespace WK
open PySem PySem.Spec PyProof.Rows L2 He WB
section
variable {P : Program} {w : World} {K : PySem.W.Frag} {mg : Str → Option Value} {base : Heap}
/-- which thing a value is, as it stands -/
def thR (A : Nat → Addr) : V → V
  | .ref k => .ref (A k)
  | _ => .non
def spThingOf (K : PySem.W.Frag) : Sp := fun vs H Q _ => ∃ (h : Addr) (S : Sta) (live : List Nat) (O : List Addr) (dh n t : Addr) (ch : V) (A C : Nat → Addr) (x : Str) (v : V), vs = [.ref h, .str x] ∧ HeapX K H h S live O dh n t ch A C ∧
  valV S.names (.inr x) = some v ∧ (∀ k, v = .ref k → k ∈ live) ∧ Q (thR A v) H
theorem ok_Heap_thing_of (T : Tx w K mg) : DefOk ⟨P, w, K, mg, base⟩ 2 (ma K (ga K "Heap") "thing_of") ["self", "name"] (spThingOf K) := by
  refine DefOk.mk' (f_Heap_thing_of T) sc_Heap_thing_of (fun _ _ _ _ _ _ us hl => match us, hl with | [_, _], _ => rfl) (fun vs H Q E h => ?_) (fun cdv A outer s H vs Q E hr h => ?_)
  · obtain ⟨h, S, live, O, dh, n, t, ch, A', C', x, v, rfl, _⟩ := h
    rfl
  · obtain ⟨h, S, live, O, dh, n, t, ch, A', C', x, v, rfl, X, hv, hl, k⟩ := h
    have hu := hu_of hr
    refine ⟨_, (pss_cons (ps_set (i := 2) sc_Heap_thing_of.nd rfl (Or.inl rfl) (pe_dget hu (pe_fld (pv 0) rfl) (pv 1) (fun _ _ => rfl))) (pss_cons (ps_if (pt_val (pe_cg (M := ⟨P, w, K, mg, base⟩) rfl hr rfl (pa_cons (pv 2) pa_nil))) (pss_one (ps_ret (pe_dget hu (pe_fld (pv 0) rfl) (pe_ix ix_tup (pv 2) pe_int (fun _ _ => rfl)) (fun _ _ => rfl)))) pss_nil) (pss_one (ps_ret pe_non)))), ?_⟩
    obtain ⟨vs, e1, e2, e3, e4, e5, e6, e7⟩ := id X
    obtain ⟨u, hu2, ru⟩ := KVR.val_some e3 hv
    refine ⟨_, rfl, h, _, dh, _, _, rfl, e1, c_Heap T, n_Heap_names T, heF_names, _, rfl, n, u, rfl, (by rw [← hu2]; exact DGet.k (k := .inr x) e2), ?_⟩
    refine ⟨_, _, _, _, g_is_thing T, ok_is_thing T, by decide, _, rfl, u, v, rfl, ru, _, rfl, ?_⟩
    rcases ru.cases with ⟨rfl, rfl⟩ | ⟨j, rfl, rfl⟩ | ⟨b, m, rfl, rfl, e⟩
    · exact iteF k
    · exact iteF k
    · have hm := hl m rfl
      refine iteT ⟨_, rfl, h, _, dh, _, _, rfl, e1, c_Heap T, n_Heap_things T, heF_things, _, rfl, b, _, 1, _, rfl, rfl, SqT.of e, atI_nat (j := 1) rfl, t, .ref (A' m), rfl, (by rw [← val_live (A := A') hm]; exact DGet.k (k := .inl (m : Int)) e4), k⟩
def kindsS : List Str := ["record", "row", "book"]
def spNewThing (K : PySem.W.Frag) : Sp := fun vs H Q _ => ∃ (n : Nat) (kind : Str), vs = [.int (n : Int), .str kind] ∧ kind ∈ kindsS ∧
  ∀ a c H', Same H H' → H a = none → H c = none → H' c ≠ none → ThAt K H' a c n ⟨emptyB kind, .no, .non⟩ → Q (.ref a) H'
theorem ok_new_thing (T : Tx w K mg) : DefOk ⟨P, w, K, mg, base⟩ 5 (ga K "new_thing") ["number", "kind"] (spNewThing K) := by
  refine DefOk.mk' (f_new_thing T) sc_new_thing (fun _ _ _ _ _ _ us hl => match us, hl with | [_, _], _ => rfl) (fun vs H Q E h => ?_) (fun cdv A outer s H vs Q E hr h => ?_)
  · obtain ⟨n, kind, rfl, _⟩ := h
    rfl
  · obtain ⟨n, kind, rfl, hk, k⟩ := h
    have hu := hu_of hr
    refine ⟨_, (pss_cons (ps_if (pt_cmpR op_eq (pv 1) pe_str (nomark _)) (pss_one (ps_ret (pe_mg (M := ⟨P, w, K, mg, base⟩) rfl hr rfl (pa_cons (pv 0) pa_nil)))) pss_nil) (pss_cons (ps_if (pt_cmpR op_eq (pv 1) pe_str (nomark _)) (pss_one (ps_ret (pe_mg (M := ⟨P, w, K, mg, base⟩) rfl hr rfl (pa_cons (pv 0) pa_nil)))) pss_nil) (pss_one (ps_ret (pe_mg (M := ⟨P, w, K, mg, base⟩) rfl hr rfl (pa_cons (pv 0) pa_nil)))))), ?_⟩
    have fin : ∀ (b : Body) (x dx c : Addr) (H' : Hp), emptyB kind = b → b.isWat = false → H x = none → H dx = none → dx ≠ x → upd (upd H dx (.own x)) x (.ins (ga K b.cls) dx []) c = none → H' c ≠ none →
        Same (upd (upd H dx (.own x)) x (.ins (ga K b.cls) dx [])) H' → BodyAt (upd H' x (.ins (ga K b.cls) dx (thF n b.kind false false .non "cells" (.ref c)))) c (.ref c) b →
        Q (.ref x) (upd H' x (.ins (ga K b.cls) dx (thF n b.kind false false .non "cells" (.ref c)))) := fun b x dx c H' eb bw nx ndx nex nc hcs s1 hb => by
      have ncx : c ≠ x := fun e => by rw [e, upd_same] at nc; cases nc
      have ncd : c ≠ dx := fun e => by rw [upd_ne ncx, e, upd_same] at nc; cases nc
      have s0 : Same H (upd (upd H dx (.own x)) x (.ins (ga K b.cls) dx [])) := same_mut (same_new ndx) nx
      refine k x c _ (same_mut (s0.trans s1) nx) nx (by rw [upd_ne ncx, upd_ne ncd] at nc; exact nc) (upd_some hcs) ?_
      rw [eb]
      refine ⟨dx, .ref c, ?_, hb⟩
      rw [upd_same]
      cases b with
      | wat s g => cases bw
      | dic r y => rfl
      | row y => rfl
    refine ⟨_, rfl, rfl, _, rfl, ?_⟩
    refine ite2 (fun q => ?_) (fun q => ?_)
    · have ek : kind = "record" := V.str.inj (of_decide_eq_true q)
      refine ⟨_, _, _, _, _, g_Record T, m_Record T, ok_Record_init T, by decide, _, rfl, fun x dx nx ndx nex => ⟨x, dx, n, rfl, upd_same, fun c H' nc s1 hc => ⟨rfl, ?_⟩⟩⟩
      have ncx : c ≠ x := fun e => by rw [e, upd_same] at nc; cases nc
      exact fin (.dic true rec0) x dx c H' (by unfold emptyB; rw [if_pos ek]) rfl nx ndx nex nc (by rw [hc]; intro z; cases z) s1 ⟨rfl, rec0, by rw [upd_ne ncx]; exact hc, .cons ⟨rfl, rfl⟩ (.cons ⟨rfl, rfl⟩ (.cons ⟨rfl, rfl⟩ (.cons ⟨rfl, rfl⟩ .nil)))⟩
    · have ek : ¬ kind = "record" := fun z => q (decide_eq_true (by rw [z]))
      refine ⟨_, rfl, rfl, _, rfl, ?_⟩
      refine ite2 (fun q2 => ?_) (fun q2 => ?_)
      · have ek2 : kind = "row" := V.str.inj (of_decide_eq_true q2)
        refine ⟨_, _, _, _, _, g_Row T, m_Row T, ok_Row_init T, by decide, _, rfl, fun x dx nx ndx nex => ⟨x, dx, n, rfl, upd_same, fun c H' nc s1 hc => ⟨rfl, ?_⟩⟩⟩
        have ncx : c ≠ x := fun e => by rw [e, upd_same] at nc; cases nc
        exact fin (.row []) x dx c H' (by unfold emptyB; rw [if_neg ek, if_pos ek2]) rfl nx ndx nex nc (by rw [hc]; intro z; cases z) s1 ⟨rfl, [], by rw [upd_ne ncx]; exact hc, .nil⟩
      · have ek2 : ¬ kind = "row" := fun z => q2 (decide_eq_true (by rw [z]))
        refine ⟨_, _, _, _, _, g_Book T, m_Book T, ok_Book_init T, by decide, _, rfl, fun x dx nx ndx nex => ⟨x, dx, n, rfl, upd_same, fun c H' nc s1 hc => ⟨rfl, ?_⟩⟩⟩
        have ncx : c ≠ x := fun e => by rw [e, upd_same] at nc; cases nc
        exact fin (.dic false []) x dx c H' (by unfold emptyB; rw [if_neg ek, if_neg ek2]) rfl nx ndx nex nc (by rw [hc]; intro z; cases z) s1 ⟨rfl, [], by rw [upd_ne ncx]; exact hc, .nil⟩
end
end WK
namespace WK
open PySem PySem.Spec PyProof.Rows L2 He WB
section
variable {P : Program} {w : World} {K : PySem.W.Frag} {mg : Str → Option Value} {base : Heap}
def spBring (K : PySem.W.Frag) : Sp := fun vs H Q _ => ∃ (h : Addr) (S : Sta) (live : List Nat) (O : List Addr) (dh n t : Addr) (ch : V) (A C : Nat → Addr) (x : Str) (a c : Addr) (th : Th), vs = [.ref h, .str x, .ref a] ∧ HeapX K H h S live O dh n t ch A C ∧
  (∀ k ∈ live, k < S.made) ∧ live.length ≤ 900 ∧ S.names.length ≤ 8 ∧ ThAt K H a c S.made th ∧ (th.body.isWat = false → c ∉ O) ∧ NS H c ∧
  ∀ p H', Stp O H H' → VR H' (.ref p) (.ref S.made) → HeapX K H' h ((S.add th).setName x (.ref S.made)) (live ++ [S.made]) (a :: c :: O) dh n t ch (addF S.made a A) (addF S.made c C) → Q (.ref p) H'
theorem ok_Heap_bring (T : Tx w K mg) : DefOk ⟨P, w, K, mg, base⟩ 2 (ma K (ga K "Heap") "bring") ["self", "name", "thing"] (spBring K) := by
  refine DefOk.mk' (f_Heap_bring T) sc_Heap_bring (fun _ _ _ _ _ _ us hl => match us, hl with | [_, _, _], _ => rfl) (fun vs H Q E h => ?_) (fun cdv A outer s H vs Q E hr h => ?_)
  · obtain ⟨h, S, live, O, dh, n, t, ch, A', C', x, a, c, th, rfl, _⟩ := h
    rfl
  · obtain ⟨h, S, live, O, dh, n, t, ch, A', C', x, a, c, th, rfl, X, lm, l9, n8, ht, hc, hcs, k⟩ := h
    have hu := hu_of hr
    refine ⟨_, (pss_cons (ps_dput hu (pe_fld (pv 0) rfl) (pe_fld (pv 2) rfl) (pv 2) rfl) (pss_cons (ps_fldaug (pv 0) pe_int in_add) (pss_cons (ps_set (i := 3) sc_Heap_bring.nd rfl (Or.inl rfl) (pe_cg (M := ⟨P, w, K, mg, base⟩) rfl hr rfl (pa_cons (pe_fld (pv 2) rfl) pa_nil))) (pss_cons (ps_dput hu (pe_fld (pv 0) rfl) (pv 1) (pv 3) rfl) (pss_one (ps_ret (pv 3))))))), ?_⟩
    obtain ⟨vs, e1, e2, e3, e4, e5, e6, e7⟩ := id X
    obtain ⟨dx, pv, g1, g2⟩ := id ht
    have nht : h ≠ t := by rintro z; rw [z, e4] at e1; cases e1
    have nat : a ≠ t := by rintro z; rw [z, e4] at g1; cases g1
    have nah : a ≠ h := by
      intro z; rw [z, e1] at g1
      injection g1 with g1; injection g1 with _ _ g1
      exact thF_ne_heF g1.symm
    have ll : (live.map fun (k : Nat) => ((.inl (k : Int) : Key), V.ref (A' k))).length < sizeLine := szl (by rw [List.length_map]; omega)
    refine ⟨_, rfl, _, rfl, h, _, dh, _, _, rfl, e1, c_Heap T, n_Heap_things T, heF_things, _, rfl, a, _, dx, _, _, rfl, g1, b_cls T _, b_number T _, thF_number, t, _, rfl, DPut.k (k := .inl (S.made : Int)) e4 ll, ?_⟩
    refine ⟨_, rfl, h, _, dh, _, _, rfl, (by rw [upd_ne nht]; exact e1), c_Heap T, n_Heap_made T, heF_made, _, _, rfl, rfl, dh, _, (by rw [upd_ne nht]; exact e1), heF_len, ?_⟩
    have hp : putF "made" (.int ((S.made : Int) + 1)) (heF n t S.made ch) = heF n t (S.made + 1) ch := heF_put_made (m := S.made + 1)
    rw [hp]
    have X2 := X.add lm ht hc hcs
    have st1 : Stp O H _ := (Stp.upd (a := t) (o := .dK (putK (live.map fun (k : Nat) => ((.inl (k : Int) : Key), V.ref (A' k))) (.inl (S.made : Int)) (.ref a))) (.inl e7.t)).trans' (Stp.upd (a := h) (o := .ins (ga K "Heap") dh (heF n t (S.made + 1) ch)) (.inl e7.h))
    refine ⟨_, _, _, _, g_as_value T, ok_as_value T, by decide, _, rfl, a, _, dx, _, _, rfl, (by rw [upd_ne nah, upd_ne nat]; exact g1), b_cls T _, b_number T _, thF_number, S.made, rfl, fun p H3 s3 np hp3 => ?_⟩
    have X3 := X2.same s3
    obtain ⟨vs3, f1, f2, f3, f4, f5, f6, f7⟩ := id X3
    refine ⟨_, rfl, _, rfl, h, _, dh, _, _, rfl, f1, c_Heap T, n_Heap_names T, heF_names, _, rfl, n, _, rfl, DPut.k (k := .inr x) f2 (szl (by rw [KVR.length f3]; show S.names.length ≤ 1000; omega)), ?_⟩
    have tp : Tup H3 (upd H3 n (.dK (putK vs3 (.inr x) (.ref p)))) := tup_upd (by rw [f2]; intro xs z; cases z; rfl)
    have vp : VR (upd H3 n (.dK (putK vs3 (.inr x) (.ref p)))) (.ref p) (.ref S.made) := VR.mono tp (VR.thing hp3)
    refine ⟨_, rfl, k p _ ((st1.trans' (Stp.of_same s3)).trans' (Stp.upd (.inl e7.n))) vp ?_⟩
    exact X3.name (KVR.put vp (KVR.mono tp f3))
def spStore (K : PySem.W.Frag) : Sp := fun vs H Q _ => ∃ (h : Addr) (S : Sta) (live : List Nat) (O : List Addr) (dh n t : Addr) (ch : V) (A C : Nat → Addr) (j : Nat) (y : Key) (v x : V), vs = [.ref h, .ref (A j), kV y, v] ∧ HeapX K H h S live O dh n t ch A C ∧
  j ∈ live ∧ (S.th j).body.isWat = false ∧ (S.th j).body.wf ∧ (S.th j).body.fits y = true ∧ VR H v x ∧
  ∀ q u H', Stp O H H' → H' q = some (.tup [.int (j : Int), u, v]) → VR H' u (if (S.th j).body.has y then (S.th j).body.at y else .non) → VR H' v x →
    HeapX K H' h (S.setTh j { S.th j with body := (S.th j).body.put y x }) live O dh n t (.ref q) A C → Q .non H'
theorem ok_Heap_store (T : Tx w K mg) : DefOk ⟨P, w, K, mg, base⟩ 2 (ma K (ga K "Heap") "store") ["self", "thing", "part", "value"] (spStore K) := by
  refine DefOk.mk' (f_Heap_store T) sc_Heap_store (fun _ _ _ _ _ _ us hl => match us, hl with | [_, _, _, _], _ => rfl) (fun vs H Q E h => ?_) (fun cdv A outer s H vs Q E hr h => ?_)
  · obtain ⟨h, S, live, O, dh, n, t, ch, A', C', j, y, v, x, rfl, _⟩ := h
    rfl
  · obtain ⟨h, S, live, O, dh, n, t, ch, A', C', j, y, v, x, rfl, X, hj, nw, wf, hf, rv, k⟩ := h
    have hu := hu_of hr
    refine ⟨_, (pss_cons (ps_set (i := 4) sc_Heap_store.nd rfl (Or.inl rfl) (pe_ifExp (pt_val (pe_md (M := ⟨P, w, K, mg, base⟩) rfl hr (pv 1) (pa_cons (pv 2) pa_nil))) (pe_md (M := ⟨P, w, K, mg, base⟩) rfl hr (pv 1) (pa_cons (pv 2) pa_nil)) pe_non)) (pss_cons (ps_expr (pe_md (M := ⟨P, w, K, mg, base⟩) rfl hr (pv 1) (pa_cons (pv 2) (pa_cons (pv 3) pa_nil)))) (pss_one (ps_fld (pv 0) (pe_tup (pa_cons (pe_fld (pv 1) rfl) (pa_cons (pv 4) (pa_cons (pv 3) pa_nil)))) rfl)))), ?_⟩
    obtain ⟨vs, e1, e2, e3, e4, e5, e6, e7⟩ := id X
    obtain ⟨dx, pv, g1, g2⟩ := id (e5 j hj)
    -- the rest, whatever was lost
    have rest : ∀ (u : V) (H1 : Hp), Same H H1 → VR H1 u (if (S.th j).body.has y then (S.th j).body.at y else .non) →
        tSeq (tDrop (tMD ⟨P, w, K, mg, base⟩ 1 "put" (tVar 1) (tCons (tVar 2) (tCons (tVar 3) tNil)))) (sFld K (tVar 0) (tTup (tCons (tFld K (tVar 1) "number") (tCons (tVar 4) (tCons (tVar 3) tNil)))) "change")
          { nx := fun _ H' => Q .non H', rt := Q } [some (.ref h), some (.ref (A' j)), some (kV y), some v, some u] H1 := fun u H1 s1 ru => by
      have X1 := X.same s1
      have ht1 := (e5 j hj).same s1
      obtain ⟨d1, p1, q1, q2⟩ := id ht1
      refine ⟨_, rfl, A' j, _, d1, _, _, _, _, _, rfl, q1, thF_no_put _, b_cls T _, bt_put T _ (Body.notWat nw), ok_put_b T _ nw, by decide, _, rfl, _, rfl, ?_⟩
      refine ⟨A' j, C' j, j, S.th j, y, v, x, rfl, Body.like_refl _, hf, wf, ht1, VR.mono (Same.tup s1) rv, fun o tp hx => ?_⟩
      have w1 : ((S.th j).body.put y x).isWat = false := by
        cases e : (S.th j).body with
        | wat s g => rw [e] at nw; cases nw
        | dic r z => rfl
        | row z => show (if _ then Body.row _ else Body.row _).isWat = false; split <;> rfl
      have X2 := X1.cell hj nw w1 hx
      obtain ⟨vs2, f1, f2, f3, f4, f5, f6, f7⟩ := id X2
      obtain ⟨d3, p3, r1, r2⟩ := id hx
      refine ⟨_, rfl, A' j, _, d3, _, _, rfl, r1, b_cls T _, b_number T _, thF_number, _, rfl, _, rfl, by show 3 ≤ sizeLine; decide, fun q hq => ?_⟩
      refine ⟨_, rfl, h, _, dh, _, rfl, (by rw [upd_ne (ne_of_none f1 hq)]; exact f1), c_Heap T, n_Heap_change T, heF_len, ?_⟩
      have X3 := (X2.same (same_new (o := .tup [.int (j : Int), u, v]) hq))
      have nqh : q ≠ h := (ne_of_none f1 hq).symm
      refine k q u _ ?_ (by rw [upd_ne nqh]; exact upd_same) ?_ ?_ ?_
      · exact (((Stp.of_same s1).trans' (Stp.upd (.inl (e7.c j hj nw)))).trans' (Stp.of_same (same_new hq))).trans' (Stp.upd (.inl e7.h))
      · refine VR.mono ?_ ru
        exact (tp.trans (Same.tup (same_new hq))).trans (tup_upd (by rw [upd_ne nqh.symm, f1]; intro xs z; cases z; rfl))
      · refine VR.mono ?_ (VR.mono (Same.tup s1) rv)
        exact (tp.trans (Same.tup (same_new hq))).trans (tup_upd (by rw [upd_ne nqh.symm, f1]; intro xs z; cases z; rfl))
      · exact X3.change
    refine ⟨_, rfl, A' j, _, dx, _, _, _, _, _, rfl, g1, thF_no_has _, b_cls T _, bt_has T _, ok_has_b T _, by decide, _, rfl, A' j, C' j, j, S.th j, y, rfl, Body.like_refl _, e5 j hj, fun H1 s1 => ⟨_, rfl, ?_⟩⟩
    cases hh : (S.th j).body.has y with
    | true =>
      rw [hh] at rest
      obtain ⟨d1, p1, q1, q2⟩ := (e5 j hj).same s1
      refine iteT ⟨_, rfl, A' j, _, d1, _, _, _, _, _, rfl, q1, thF_no_at _, b_cls T _, bt_at T _ (Body.notWat nw), ok_at_b T _ nw, by decide, _, rfl, A' j, C' j, j, S.th j, y, rfl, Body.like_refl _, hh, (e5 j hj).same s1, fun u ru => ?_⟩
      exact rest u H1 s1 ru
    | false =>
      rw [hh] at rest
      refine iteF ?_
      exact rest .non H1 s1 rfl
end
end WK
namespace WK
open PySem PySem.Spec PyProof.Rows L2 He WB
section
variable {P : Program} {w : World} {K : PySem.W.Frag} {mg : Str → Option Value} {base : Heap}
def spStrike (K : PySem.W.Frag) : Sp := fun vs H Q _ => ∃ (h : Addr) (S : Sta) (live : List Nat) (O : List Addr) (dh n t : Addr) (ch : V) (A C : Nat → Addr) (j : Nat) (y : Key), vs = [.ref h, .ref (A j), kV y] ∧ HeapX K H h S live O dh n t ch A C ∧
  j ∈ live ∧ (S.th j).body.isWat = false ∧ (S.th j).body.wf ∧ (S.th j).body.has y = true ∧
  ∀ q u H', Stp O H H' → H' q = some (.tup [.int (j : Int), u, .non]) → VR H' u ((S.th j).body.at y) →
    HeapX K H' h (S.setTh j { S.th j with body := (S.th j).body.cut y }) live O dh n t (.ref q) A C → Q .non H'
theorem ok_Heap_strike (T : Tx w K mg) : DefOk ⟨P, w, K, mg, base⟩ 2 (ma K (ga K "Heap") "strike") ["self", "thing", "part"] (spStrike K) := by
  refine DefOk.mk' (f_Heap_strike T) sc_Heap_strike (fun _ _ _ _ _ _ us hl => match us, hl with | [_, _, _], _ => rfl) (fun vs H Q E h => ?_) (fun cdv A outer s H vs Q E hr h => ?_)
  · obtain ⟨h, S, live, O, dh, n, t, ch, A', C', j, y, rfl, _⟩ := h
    rfl
  · obtain ⟨h, S, live, O, dh, n, t, ch, A', C', j, y, rfl, X, hj, nw, wf, hh, k⟩ := h
    have hu := hu_of hr
    refine ⟨_, (pss_cons (ps_fld (pv 0) (pe_tup (pa_cons (pe_fld (pv 1) rfl) (pa_cons (pe_md (M := ⟨P, w, K, mg, base⟩) rfl hr (pv 1) (pa_cons (pv 2) pa_nil)) (pa_cons pe_non pa_nil)))) rfl) (pss_one (ps_expr (pe_md (M := ⟨P, w, K, mg, base⟩) rfl hr (pv 1) (pa_cons (pv 2) pa_nil))))), ?_⟩
    obtain ⟨vs, e1, e2, e3, e4, e5, e6, e7⟩ := id X
    obtain ⟨dx, pv, g1, g2⟩ := id (e5 j hj)
    refine ⟨_, rfl, A' j, _, dx, _, _, rfl, g1, b_cls T _, b_number T _, thF_number, ?_⟩
    refine ⟨_, rfl, A' j, _, dx, _, _, _, _, _, rfl, g1, thF_no_at _, b_cls T _, bt_at T _ (Body.notWat nw), ok_at_b T _ nw, by decide, _, rfl, A' j, C' j, j, S.th j, y, rfl, Body.like_refl _, hh, e5 j hj, fun u ru => ⟨by show 3 ≤ sizeLine; decide, fun q hq => ?_⟩⟩
    refine ⟨_, rfl, h, _, dh, _, rfl, (by rw [upd_ne (ne_of_none e1 hq)]; exact e1), c_Heap T, n_Heap_change T, heF_len, ?_⟩
    have s1 : Same H (upd H q (.tup [.int (j : Int), u, .non])) := same_new hq
    have nqh : q ≠ h := (ne_of_none e1 hq).symm
    have X2 := (X.same s1).change (v := .ref q)
    have tp2 : Tup H (upd (upd H q (.tup [.int (j : Int), u, .non])) h (.ins (ga K "Heap") dh (heF n t S.made (.ref q)))) := (Same.tup s1).trans (tup_upd (by rw [upd_ne nqh.symm, e1]; intro xs z; cases z; rfl))
    obtain ⟨vs2, f1, f2, f3, f4, f5, f6, f7⟩ := id X2
    have ht2 := f5 j hj
    obtain ⟨d1, p1, q1, q2⟩ := id ht2
    refine ⟨_, rfl, A' j, _, d1, _, _, _, _, _, rfl, q1, thF_no_cut _, b_cls T _, bt_cut T _ (Body.notWat nw), ok_cut_b T _ nw, by decide, _, rfl, A' j, C' j, j, S.th j, y, rfl, Body.like_refl _, hh, wf, ht2, fun o tp hx => ?_⟩
    have w1 : ((S.th j).body.cut y).isWat = false := by
      cases e : (S.th j).body with
      | wat s g => rw [e] at nw; cases nw
      | dic r z => cases r <;> rfl
      | row z => rfl
    refine k q u _ ?_ ?_ (VR.mono (tp2.trans tp) ru) (X2.cell hj nw w1 hx)
    · exact ((Stp.of_same s1).trans' (Stp.upd (.inl e7.h))).trans' (Stp.upd (.inl (e7.c j hj nw)))
    · exact tp _ _ (by rw [upd_ne nqh]; exact upd_same)
def spPerform (K : PySem.W.Frag) : Sp := fun vs H Q _ => ∃ (h : Addr) (S : Sta) (live : List Nat) (O : List Addr) (dh n t : Addr) (ch : V) (A C : Nat → Addr) (j : Nat), vs = [.ref h, .int (j : Int)] ∧ HeapX K H h S live O dh n t ch A C ∧
  j ∈ live ∧ S.names.length ≤ 8 ∧ (S.th j).last = .due ∧ ((S.th j).goal = .non ∨ ∃ x, (S.th j).goal = .str x) ∧ ∀ H', Stp O H H' → HeapX K H' h (performS S j) live O dh n t ch A C → Q .non H'
theorem ok_Heap_perform_last (T : Tx w K mg) : DefOk ⟨P, w, K, mg, base⟩ 2 (ma K (ga K "Heap") "perform_last") ["self", "number"] (spPerform K) := by
  refine DefOk.mk' (f_Heap_perform_last T) sc_Heap_perform_last (fun _ _ _ _ _ _ us hl => match us, hl with | [_, _], _ => rfl) (fun vs H Q E h => ?_) (fun cdv A outer s H vs Q E hr h => ?_)
  · obtain ⟨h, S, live, O, dh, n, t, ch, A', C', j, rfl, _⟩ := h
    rfl
  · obtain ⟨h, S, live, O, dh, n, t, ch, A', C', j, rfl, X, hj, n8, hd, hg, k⟩ := h
    have hu := hu_of hr
    refine ⟨_, (pss_cons (ps_set (i := 2) sc_Heap_perform_last.nd rfl (Or.inl rfl) (pe_dget hu (pe_fld (pv 0) rfl) (pv 1) (fun _ _ => rfl))) (pss_cons (ps_fld (pv 2) pe_bl rfl) (pss_one (ps_if (pt_cmpR op_notN (pe_fld (pv 2) rfl) pe_non (nomark _)) (pss_one (ps_dput hu (pe_fld (pv 0) rfl) (pe_fld (pv 2) rfl) (pe_cg (M := ⟨P, w, K, mg, base⟩) rfl hr rfl (pa_cons (pv 1) pa_nil)) rfl)) pss_nil)))), ?_⟩
    obtain ⟨vs, e1, e2, e3, e4, e5, e6, e7⟩ := id X
    obtain ⟨dx, pv, g1, g2⟩ := id (e5 j hj)
    refine ⟨_, rfl, h, _, dh, _, _, rfl, e1, c_Heap T, n_Heap_things T, heF_things, _, rfl, t, .ref (A' j), rfl, (by rw [← val_live (A := A') hj]; exact DGet.k (k := .inl (j : Int)) e4), ?_⟩
    refine ⟨_, rfl, A' j, _, dx, _, rfl, g1, b_cls T _, b_due T _, thF_len, ?_⟩
    rw [thF_put_due]
    have eg : ((S.th j).last != .no) = true := by rw [hd]; rfl
    rw [eg]
    have hx := ThAt.attr g1 g2 ⟨(S.th j).body, .done, (S.th j).goal⟩ rfl
    have X2 := X.inst (x := ⟨(S.th j).body, .done, (S.th j).goal⟩) hj rfl hx
    have st2 : Stp O H _ := Stp.upd (a := A' j) (o := .ins (ga K (S.th j).body.cls) dx (thF j (S.th j).body.kind true false (S.th j).goal (S.th j).body.part pv)) (.inl (e7.a j hj))
    obtain ⟨vs2, f1, f2, f3, f4, f5, f6, f7⟩ := id X2
    refine ⟨_, rfl, A' j, _, dx, _, _, rfl, upd_same, b_cls T _, b_goal T _, thF_goal, rfl, _, rfl, ?_⟩
    rcases hg with hg | ⟨x, hg⟩
    · have ep : performS S j = S.setTh j ⟨(S.th j).body, .done, (S.th j).goal⟩ := by unfold performS; rw [hg]
      rw [ep] at k
      refine ite2 (fun q => ?_) (fun _ => k _ st2 X2)
      rw [hg] at q
      exact absurd q (by decide)
    · have ep : performS S j = (S.setTh j ⟨(S.th j).body, .done, (S.th j).goal⟩).setName x (.ref j) := by unfold performS; rw [hg]
      rw [ep] at k
      refine ite2 (fun _ => ?_) (fun q => ?_)
      · refine ⟨_, _, _, _, g_as_value T, ok_as_value T, by decide, _, rfl, j, rfl, fun p H3 s3 np hp3 => ?_⟩
        have X3 := X2.same s3
        obtain ⟨vs3, d1, d2, d3, d4, d5, d6, d7⟩ := id X3
        refine ⟨_, rfl, h, _, dh, _, _, rfl, d1, c_Heap T, n_Heap_names T, heF_names, _, rfl, A' j, _, dx, _, _, rfl, s3 _ _ upd_same, b_cls T _, b_goal T _, thF_goal, n, upd H3 n (.dK (putK vs3 (.inr x) (.ref p))), rfl, (by rw [hg]; exact DPut.k (k := .inr x) d2 (szl (by rw [KVR.length d3]; show S.names.length ≤ 1000; omega))), ?_⟩
        have tp3 : Tup H3 (upd H3 n (.dK (putK vs3 (.inr x) (.ref p)))) := tup_upd (by rw [d2]; intro xs z; cases z; rfl)
        exact k _ ((st2.trans' (Stp.of_same s3)).trans' (Stp.upd (.inl e7.n))) (X3.name (KVR.put (VR.mono tp3 (VR.thing hp3)) (KVR.mono tp3 d3)))
      · rw [hg] at q; exact absurd rfl q
def spTell (K : PySem.W.Frag) : Sp := fun vs H Q _ => ∃ (h : Addr) (S : Sta) (live : List Nat) (O : List Addr) (dh n t : Addr) (ch : V) (A C : Nat → Addr), vs = [.ref h] ∧ HeapX K H h S live O dh n t ch A C ∧
  S.names.length ≤ 8 ∧ (∀ k ∈ live, (S.th k).body.wf) ∧ live.length ≤ 1000 ∧ live.Nodup ∧
  ∀ H' ks, (∀ k, k ∈ ks ↔ Reach S live k) → Stp O H H' → HeapX K H' h (S.tell ks) live O dh n t ch A C → Q .non H'
theorem tellP_nil {S : Sta} {ks : List Nat} (k : Nat) : (S.tellP ks []).th k = S.th k := by
  show (if k ∈ ([] : List Nat) then tellL ks (S.th k) else S.th k) = S.th k
  rw [if_neg List.not_mem_nil]
theorem upd_comm {H : Hp} {a b : Addr} {o u : HO} (h : a ≠ b) : upd (upd H a o) b u = upd (upd H b u) a o := by
  funext x
  unfold upd
  by_cases q : x = b
  · rw [if_pos q, if_neg (by rintro rfl; exact h q), if_pos q]
  · rw [if_neg q]
    by_cases r : x = a
    · rw [if_pos r, if_pos r]
    · rw [if_neg r, if_neg r, if_neg q]
theorem ty_ins (T : Tx w K mg) {H : Hp} {a dx : Addr} {fs : List (Str × V)} : (b : Body) → H a = some (.ins (ga K b.cls) dx fs) → TyOf K H (.ref a) (.ref (ga K b.cls)) := fun b e => by
  have go : ∀ c : Str, Cls K (ga K c) → (Fx.isi c).ok K = true → H a = some (.ins (ga K c) dx fs) → TyOf K H (.ref a) (.ref (ga K c)) := fun c cl f e => by
    obtain ⟨f1, f2⟩ := ba f
    obtain ⟨f2, f3⟩ := ba f2
    obtain ⟨f3, f4⟩ := ba f3
    exact .ins e cl (eqO_ok f1) (eqO_ok f2) (of_decide_eq_true f3) (of_decide_eq_true f4)
  cases b with
  | dic r y =>
    cases r
    · exact go _ (c_Book T) (x_isi_Book T) e
    · exact go _ (c_Record T) (x_isi_Record T) e
  | row y => exact go _ (c_Row T) (x_isi_Row T) e
  | wat s g => exact go _ (c_Watch T) (x_isi_Watch T) e
theorem kitW (T : Tx w K mg) : (b : Body) → PySem.W.kitOne K (.ref (ga K b.cls)) (.ref (ga K "Watch")) = some b.isWat
  | .dic true _ => of_decide_eq_true (x_kitW_Record T)
  | .dic false _ => of_decide_eq_true (x_kitW_Book T)
  | .row _ => of_decide_eq_true (x_kitW_Row T)
  | .wat _ _ => of_decide_eq_true (x_kitW_Watch T)
theorem not_taken {α : Type} {l : List α} {i : Nat} {x : α} (nd : l.Nodup) (h : l[i]? = some x) : x ∉ l.take i := by
  obtain ⟨hi, e⟩ := List.getElem?_eq_some_iff.mp h
  have q : l = l.take i ++ x :: l.drop (i + 1) := by
    rw [← e, ← List.drop_eq_getElem_cons hi, List.take_append_drop]
  rw [q] at nd
  intro z
  exact (List.nodup_append.mp nd).2.2 _ z _ List.mem_cons_self rfl
theorem ok_Heap_tell_watches (T : Tx w K mg) : DefOk ⟨P, w, K, mg, base⟩ 5 (ma K (ga K "Heap") "tell_watches") ["self"] (spTell K) := by
  refine DefOk.mk' (f_Heap_tell_watches T) sc_Heap_tell_watches (fun _ _ _ _ _ _ us hl => match us, hl with | [_], _ => rfl) (fun vs H Q E h => ?_) (fun cdv A outer s H vs Q E hr h => ?_)
  · obtain ⟨h, S, live, O, dh, n, t, ch, A', C', rfl, _⟩ := h
    rfl
  · obtain ⟨h, S, live, O, dh, n, t, ch, A', C', rfl, X, n8, wf, l1, nd, k⟩ := h
    have hu := hu_of hr
    refine ⟨_, (pss_cons (ps_set (i := 1) sc_Heap_tell_watches.nd rfl (Or.inl rfl) (pe_md0 (M := ⟨P, w, K, mg, base⟩) rfl hr (pv 0))) (pss_one (ps_lock (ps_for PassesOwn.never rfl (pi_values (pe_fld (pv 0) rfl)) (pg_name (i := 2) sc_Heap_tell_watches.nd rfl (Or.inl rfl)) (pss_one (ps_if (PW.pt (pw_and (pt_val (pe_callB call_isi (by rfl) (z_isinstance T) (by decide +kernel) (pa_cons (pv 2) (pa_cons (pe_glob (v := .ref (ga K "Watch")) rfl (g_Watch T) rfl) pa_nil)))) (pw_and (pt_cmpR op_notN (pe_fld (pv 2) rfl) pe_non (nomark _)) (pw_and1 (pt_cmp (pc_dnotin hu (pe_ix ix_tup (pe_fld (pv 2) rfl) pe_int (fun _ _ => rfl)) (pv 1))))))) (pss_one (ps_fld (pv 2) pe_non rfl)) pss_nil)))))), ?_⟩
    obtain ⟨vs, e1, e2, e3, e4, e5, e6, e7⟩ := id X
    refine ⟨_, rfl, h, _, dh, _, _, _, _, _, rfl, e1, (by kernel_rfl), c_Heap T, t_Heap_reach T, ok_Heap_reach T, by decide, h, S, live, O, rfl, ⟨dh, n, t, ch, A', C', X⟩, n8, wf, l1, fun D H1 ks s1 nD hD ndk hks => ?_⟩
    have X1 := X.same s1
    obtain ⟨vs1, p1, p2, p3, p4, p5, p6, p7⟩ := id X1
    generalize ekv : (live.map fun (k : Nat) => ((.inl (k : Int) : Key), V.ref (A' k))) = kvs at *
    refine ⟨t, _, p4, trivial, fun od => ?_⟩
    have nht : h ≠ t := by rintro z; rw [z, p4] at p1; cases p1
    have nDt : D ≠ t := by rintro z; rw [z, e4] at nD; cases nD
    have lk : kvs.length = live.length := by rw [← ekv, List.length_map]
    have unl : upd (upd H1 t (.frz od (.dK kvs))) t (.dK kvs) = H1 := by
      rw [upd_upd]; funext x
      by_cases q : x = t
      · rw [q, upd_same, p4]
      · rw [upd_ne q]
    refine ⟨_, rfl, h, _, dh, _, _, rfl, (by rw [upd_ne nht]; exact p1), c_Heap T, n_Heap_things T, heF_things, t, od, kvs, rfl, upd_same, ?_⟩
    refine for_it walk_values (fun i σ H' => ∃ x5, σ = [some (.ref h), some (.ref D), x5] ∧ H' t = some (.frz od (.dK kvs)) ∧ HeapX K (upd H' t (.dK kvs)) h (S.tellP ks (live.take i)) live O dh n t ch A' C' ∧ H' D = some (.dK (foundD ks)) ∧ Stp O H1 (upd H' t (.dK kvs)))
      ⟨_, rfl, upd_same, by rw [unl]; exact X1.congr rfl rfl (fun k _ => by rw [List.take_zero]; exact tellP_nil k), by rw [upd_ne nDt]; exact hD, by rw [unl]; exact Stp.refl _ _⟩ (fun i σ H' _ ⟨_, _, q, _⟩ => q) ?_ ?_
    · rintro i x σ H2 H3 hi ⟨x5, rfl, q1, q2, q3, q4⟩ ⟨rfl, y, hy⟩
      obtain ⟨j, hj, ej⟩ : ∃ j, live[i]? = some j ∧ ((.inl (j : Int) : Key), V.ref (A' j)) = (y, x) := by
        rw [← ekv, List.getElem?_map] at hy
        exact Option.map_eq_some_iff.mp hy
      obtain ⟨rfl, rfl⟩ := Prod.mk.inj ej
      have hjl : j ∈ live := List.mem_of_getElem? hj
      have hnj := not_taken nd hj
      have hth : (S.tellP ks (live.take i)).th j = S.th j := if_neg hnj
      obtain ⟨vs2, f1, f2, f3, f4, f5, f6, f7⟩ := id q2
      have hj5 := f5 j hjl
      rw [hth] at hj5
      obtain ⟨dx, pv, g1, g2⟩ := id hj5
      have nAt : A' j ≠ t := by rintro z; rw [z, upd_same] at g1; cases g1
      have g1' : H3 (A' j) = some (.ins (ga K (S.th j).body.cls) dx (thF j (S.th j).body.kind ((S.th j).last != .no) ((S.th j).last == .due) (S.th j).goal (S.th j).body.part pv)) := by rw [← g1, upd_ne nAt]
      have nxt : live.take (i + 1) = live.take i ++ [j] := take_snoc hj
      -- nothing of it changes
      have stay : tellL ks (S.th j) = S.th j → ∃ x5', ([some (.ref h), some (.ref D), some (V.ref (A' j))] : L2.St) = [some (.ref h), some (.ref D), x5'] ∧ H3 t = some (.frz od (.dK kvs)) ∧
          HeapX K (upd H3 t (.dK kvs)) h (S.tellP ks (live.take (i + 1))) live O dh n t ch A' C' ∧ H3 D = some (.dK (foundD ks)) ∧ Stp O H1 (upd H3 t (.dK kvs)) := fun e =>
        ⟨_, rfl, q1, q2.congr rfl rfl fun m _ => by rw [nxt]; exact tellP_next e m, q3, q4⟩
      have kw := kitW T (S.th j).body
      refine ⟨_, rfl, _, _, _, _, _, rfl, .own _, .base (ty_ins T _ g1'), kw, _, rfl, ?_⟩
      cases eb : (S.th j).body with
      | dic r z => exact stay (tellL_not (by rw [eb]; rfl))
      | row z => exact stay (tellL_not (by rw [eb]; rfl))
      | wat sn g =>
        rw [eb] at g2 g1'
        have etl := tellL_wat (ks := ks) eb
        refine ⟨_, rfl, A' j, _, dx, _, _, rfl, g1', c_Watch T, n_Watch_sees T, thF_sees, rfl, _, rfl, ?_⟩
        cases g with
        | true =>
          cases (show pv = .non from g2)
          refine stay ?_
          rw [etl, Bool.true_or, ← eb]
        | false =>
          obtain ⟨av, rfl, eav⟩ := (show VR _ pv (.ref sn) from g2)
          have nat : av ≠ t := by rintro z; rw [z, upd_same] at eav; cases eav
          rw [upd_ne nat] at eav
          refine ⟨_, rfl, A' j, _, dx, _, _, rfl, g1', c_Watch T, n_Watch_sees T, thF_sees, av, _, 1, _, rfl, rfl, SqT.of eav, atI_nat (j := 1) rfl, _, rfl, D, _, rfl, DGet.k (k := .inl (sn : Int)) q3, _, rfl, ?_⟩
          rw [val_keys (foundD_keys ks) sn]
          by_cases hs : sn ∈ ks
          · rw [decide_eq_true hs]
            refine stay ?_
            rw [etl, decide_eq_true hs, Bool.not_true, Bool.or_false, ← eb]
          · rw [decide_eq_false hs]
            refine ⟨_, rfl, A' j, _, dx, _, rfl, g1', c_Watch T, n_Watch_sees T, thF_len, ?_⟩
            rw [show putF "sees" V.non (thF j (Body.wat sn false).kind ((S.th j).last != .no) ((S.th j).last == .due) (S.th j).goal (Body.wat sn false).part (.ref av)) = _ from thF_put_sees]
            have cm := upd_comm (H := H3) (o := .ins (ga K "Watch") dx (thF j "watch" ((S.th j).last != .no) ((S.th j).last == .due) (S.th j).goal "sees" .non)) (u := .dK kvs) nAt
            have bl := ThAt.blind (c := C' j) eb g1
            refine ⟨_, rfl, ?_, ?_, ?_, ?_⟩
            · rw [upd_ne nAt.symm]; exact q1
            · have r : HeapX K (upd (upd H3 t (.dK kvs)) (A' j) (.ins (ga K "Watch") dx (thF j "watch" ((S.th j).last != .no) ((S.th j).last == .due) (S.th j).goal "sees" .non))) h (S.tellP ks (live.take (i + 1))) live O dh n t ch A' C' := by
                refine (q2.inst (x := { S.th j with body := .wat sn true }) hjl ?_ bl).congr rfl rfl fun m hm => ?_
                · rw [hth, eb]; rfl
                · rw [nxt]
                  by_cases e : m = j
                  · subst e
                    rw [setTh_eq]
                    show (if m ∈ live.take i ++ [m] then _ else _) = _
                    rw [if_pos (by simp), etl, decide_eq_false hs]; rfl
                  · rw [setTh_ne e]
                    show (if m ∈ live.take i ++ [j] then _ else _) = if m ∈ live.take i then _ else _
                    by_cases q : m ∈ live.take i
                    · rw [if_pos q, if_pos (List.mem_append_left _ q)]
                    · rw [if_neg q, if_neg (by simp [q, e])]
              rw [← cm] at r
              exact r
            · have nDA : D ≠ A' j := by rintro z; rw [z, g1'] at q3; cases q3
              rw [upd_ne nDA]; exact q3
            · have r := q4.trans' (Stp.upd (a := A' j) (o := .ins (ga K "Watch") dx (thF j "watch" ((S.th j).last != .no) ((S.th j).last == .due) (S.th j).goal "sees" .non)) (.inl (e7.a j hjl)))
              rw [← cm] at r
              exact r
    · rintro σ H' ⟨x5, rfl, q1, q2, q3, q4⟩
      refine ⟨q1, k _ ks hks ((Stp.of_same s1).trans' q4) (q2.congr rfl rfl fun j hj => ?_)⟩
      show tellL ks (S.th j) = if j ∈ live.take kvs.length then _ else _
      rw [if_pos (by rw [lk, List.take_length]; exact hj)]
end
end WK
namespace WK
open PySem PySem.Spec PyProof.Rows L2 He WB
section
variable {P : Program} {w : World} {K : PySem.W.Frag} {mg : Str → Option Value} {base : Heap}
def nm0 : List (Key × V) := nmS.map fun x => (.inr x, V.non)
theorem nm0_put : ∀ i : Fin 8, putK (nm0.take i) (.inr (nmS.getD i "")) .non = nm0.take (i + 1) ∧ (nm0.take i).length < sizeLine := by decide +kernel
def S0 : Sta := ⟨nm0, 0, fun _ => ⟨.row [], .no, .non⟩⟩
def spHeapInit (K : PySem.W.Frag) : Sp := fun vs H Q _ => ∃ (h dh : Addr), vs = [.ref h] ∧ H h = some (.ins (ga K "Heap") dh []) ∧
  ∀ n t H' A C, Stp [h] H H' → H n = none → H t = none → HeapX K H' h S0 [] [h, n, t] dh n t .non A C → Q .non H'
theorem put_he {n t : Addr} : putF "change" .non (putF "made" (.int 0) (putF "things" (.ref t) (putF "names" (.ref n) []))) = heF n t 0 .non := by kernel_rfl
theorem ok_Heap_init (T : Tx w K mg) : DefOk ⟨P, w, K, mg, base⟩ 1 (ma K (ga K "Heap") "__init__") ["self"] (spHeapInit K) := by
  refine DefOk.mk' (f_Heap_init T) sc_Heap_init (fun _ _ _ _ _ _ us hl => match us, hl with | [_], _ => rfl) (fun vs H Q E h => ?_) (fun cdv A outer s H vs Q E hr h => ?_)
  · obtain ⟨h, dh, rfl, _⟩ := h
    rfl
  · obtain ⟨h, dh, rfl, hp, k⟩ := h
    have hu := hu_of hr
    refine ⟨_, (pss_cons (ps_fld (pv 0) (pe_dc (own := [("name", 1)]) (g := (gName 1)) rfl sc_Heap_init.nd (pi_tup (pe_glob (v := .ref (ga K "NAMES")) rfl (g_NAMES T) rfl)) (blkOk_by (own := [("name", 1)]) (N := ["self", "name"]) (sc := defScope s_Heap_init) (by decide +kernel)) (fun _ _ _ _ _ => (pg_name (i := 1) sc_Heap_init.nd rfl (Or.inl rfl))) (fun _ _ _ _ _ => by exact pts_nil) (fun _ _ _ _ _ => by exact (pv 1)) (fun _ _ _ _ _ => by exact pe_non)) rfl) (pss_cons (ps_fld (pv 0) pe_dnewK rfl) (pss_cons (ps_fld (pv 0) pe_int rfl) (pss_one (ps_fld (pv 0) pe_non rfl))))), ?_⟩
    have hL : ∀ H', SqT K H' (ga K "NAMES") (nmS.map V.str) := fun H' => strsB_ok (x_tup_NAMES T) H'
    refine ⟨_, rfl, ⟨_, hL _⟩, fun n hn => ?_⟩
    have nhn : h ≠ n := ne_of_none hp hn
    refine dc_tup (K := K) (a := ga K "NAMES") (xs := nmS.map V.str) (fun i H' => Same H H' ∧ H' n = some (.dK (nm0.take i))) ⟨same_new hn, upd_same⟩ (fun i H' _ _ => hL H') ?_ ?_
    · rintro i x H' hi ⟨s1, h1⟩
      have hi8 : i < 8 := by
        have := (List.getElem?_eq_some_iff.mp hi).1
        rwa [List.length_map] at this
      rw [List.getElem?_map] at hi
      obtain ⟨y, hy, rfl⟩ := Option.map_eq_some_iff.mp hi
      have ey : nmS.getD i "" = y := by rw [List.getD_eq_getElem?_getD, hy]; rfl
      obtain ⟨q1, q2⟩ := nm0_put ⟨i, hi8⟩
      rw [show nmS.getD (⟨i, hi8⟩ : _root_.Fin 8) "" = y from ey] at q1
      refine ⟨rfl, _, rfl, _, .inr y, rfl, h1, q2, same_mut s1 hn, ?_⟩
      rw [show putK (nm0.take i) (.inr y) .non = _ from q1]
      exact upd_same
    · rintro H' ⟨s1, h1⟩
      refine ⟨_, rfl, h, _, dh, _, rfl, s1 _ _ hp, c_Heap T, n_Heap_names T, by decide, fun t ht => ?_⟩
      have s2 : Same H H' := s1
      have nth : t ≠ h := fun e => by rw [e, upd_same] at ht; cases ht
      have ht0 : H' t = none := by rw [upd_ne nth] at ht; exact ht
      have ntn : t ≠ n := (ne_of_none h1 ht0).symm
      refine ⟨_, rfl, h, _, dh, _, rfl, (by rw [upd_ne nth.symm]; exact upd_same), c_Heap T, n_Heap_things T, by show 1 < 1000; decide, ?_⟩
      refine ⟨_, rfl, h, _, dh, _, rfl, upd_same, c_Heap T, n_Heap_made T, by show 2 < 1000; decide, ?_⟩
      refine ⟨_, rfl, h, _, dh, _, rfl, upd_same, c_Heap T, n_Heap_change T, by show 3 < 1000; decide, ?_⟩
      rw [upd_upd, upd_upd]
      show Q .non (upd (upd (upd H' h (.ins _ dh (putF "names" (.ref n) []))) t (.dK [])) h (.ins _ dh (putF "change" .non (putF "made" (.int 0) (putF "things" (.ref t) (putF "names" (.ref n) []))))))
      rw [put_he]
      refine k n t _ (fun _ => 0) (fun _ => 0) ?_ hn (s1.free ht0) ⟨nm0, upd_same, ?_, ?_, ?_, (fun k hk => nomatch hk), ⟨ntn.symm, (fun k hk => nomatch hk), (fun k hk => nomatch hk)⟩, ⟨by simp, by simp, by simp, (fun k hk => nomatch hk), (fun k hk => nomatch hk), fun b hb => ?_⟩⟩
      · exact (((Stp.of_same s1).trans' (Stp.upd (.inl (by simp)))).trans' (Stp.of_same (same_new ht))).trans' (Stp.upd (.inl (by simp)))
      · rw [upd_ne nhn.symm, upd_ne ntn.symm, upd_ne nhn.symm, h1]; rfl
      · show KVR _ nm0 nm0
        unfold nm0 nmS
        exact .cons ⟨rfl, rfl⟩ (.cons ⟨rfl, rfl⟩ (.cons ⟨rfl, rfl⟩ (.cons ⟨rfl, rfl⟩ (.cons ⟨rfl, rfl⟩ (.cons ⟨rfl, rfl⟩ (.cons ⟨rfl, rfl⟩ (.cons ⟨rfl, rfl⟩ .nil)))))))
      · rw [upd_ne nth, upd_same]; rfl
      · rcases List.mem_cons.mp hb with rfl | hb
        · exact ⟨_, upd_same, rfl⟩
        · rcases List.mem_cons.mp hb with rfl | hb
          · exact NS.put rfl (NS.put rfl (NS.put rfl ⟨_, h1, rfl⟩))
          · rw [List.mem_singleton.mp hb]
            exact NS.put rfl ⟨_, upd_same, rfl⟩
def SnapAt (H0 H : Hp) (t : Addr) (k : Nat) (th : Th) : Prop := ∃ lp, H t = some (.tup [.int (k : Int), .str th.body.kind, .ref lp, .int th.body.size]) ∧ ShownAt H lp th.body.shown ∧ H0 lp = none
def spSnapshot (K : PySem.W.Frag) : Sp := fun vs H Q _ => ∃ (a c : Addr) (k : Nat) (th : Th), vs = [.ref a] ∧ th.body.wf ∧ ThAt K H a c k th ∧ ∀ t H', Same H H' → H t = none → SnapAt H H' t k th → Q (.ref t) H'
theorem ShownAt.same {H H' : Hp} (s : Same H H') {l : Addr} {ps : List (Key × V)} (h : ShownAt H l ps) : ShownAt H' l ps :=
  let ⟨ts, e, p⟩ := h; ⟨ts, s _ _ e, Paired.imp (fun _ _ ⟨v, h1, h2⟩ => ⟨v, s _ _ h1, VR.mono (Same.tup s) h2⟩) p⟩
theorem ok_snapshot (T : Tx w K mg) : DefOk ⟨P, w, K, mg, base⟩ 2 (ga K "snapshot") ["thing"] (spSnapshot K) := by
  refine DefOk.mk' (f_snapshot T) sc_snapshot (fun _ _ _ _ _ _ us hl => match us, hl with | [_], _ => rfl) (fun vs H Q E h => ?_) (fun cdv A outer s H vs Q E hr h => ?_)
  · obtain ⟨a, c, j, th, rfl, _⟩ := h
    rfl
  · obtain ⟨a, c, j, th, rfl, wf, ht, k⟩ := h
    have hu := hu_of hr
    refine ⟨_, (pss_one (ps_ret (pe_tup (pa_cons (pe_fld (pv 0) rfl) (pa_cons (pe_fld (pv 0) rfl) (pa_cons (pe_md0 (M := ⟨P, w, K, mg, base⟩) rfl hr (pv 0)) (pa_cons (pe_md0 (M := ⟨P, w, K, mg, base⟩) rfl hr (pv 0)) pa_nil))))))), ?_⟩
    obtain ⟨dx, pv, g1, g2⟩ := id ht
    refine ⟨_, rfl, a, _, dx, _, _, rfl, g1, b_cls T _, b_number T _, thF_number, _, rfl, a, _, dx, _, _, rfl, g1, b_cls T _, b_kind T _, thF_kind, ?_⟩
    refine ⟨_, rfl, a, _, dx, _, _, _, _, _, rfl, g1, thF_no_shown _, b_cls T _, bt_shown T _, ok_shown_b T _, by decide, a, c, j, th, rfl, Body.like_refl _, wf, ht, fun l H1 s1 nl hl => ?_⟩
    obtain ⟨d1, p1, q1, q2⟩ := ht.same s1
    refine ⟨_, rfl, a, _, d1, _, _, _, _, _, rfl, q1, thF_no_size _, b_cls T _, bt_size T _, ok_size_b T _, by decide, a, c, j, th, rfl, Body.like_refl _, ht.same s1, by show 4 ≤ sizeLine; decide, fun t ht2 => ?_⟩
    exact k t _ (s1.trans (same_new ht2)) (s1.free ht2) ⟨l, upd_same, ShownAt.same (same_new ht2) hl, nl⟩
end
end WK
namespace WK
open PySem PySem.Spec PyProof.Rows L2 He WB
section
variable {P : Program} {w : World} {K : PySem.W.Frag} {mg : Str → Option Value} {base : Heap}
theorem SnapAt.same {H0 H H' : Hp} (s : Same H H') {t : Addr} {k : Nat} {th : Th} (h : SnapAt H0 H t k th) : SnapAt H0 H' t k th :=
  let ⟨lp, e, p, q⟩ := h; ⟨lp, s _ _ e, ShownAt.same s p, q⟩
/-- a photo told at p: all its lists are new -/
def PhotoAt (H0 H : Hp) (p : Addr) (S : Sta) (ks : List Nat) : Prop := ∃ (ln lt : Addr) (vs : List V) (ts : List Addr), H p = some (.tup [.ref ln, .ref lt]) ∧ H ln = some (.lst vs) ∧ LVR H vs (S.names.map (·.2)) ∧ H lt = some (.lst (ts.map V.ref)) ∧
  H0 ln = none ∧ H0 lt = none ∧ ln ≠ lt ∧ ∃ Hm, Same H0 Hm ∧ (∃ o, Hm ln = some o) ∧ (∃ o, Hm lt = some o) ∧ Paired (fun t k => SnapAt Hm H t k (S.th k)) ts ks
theorem val_at : ∀ {ps : List (Key × V)} {i : Nat} {p : Key × V}, (ps.map (·.1)).Nodup → ps[i]? = some p → valV ps p.1 = some p.2
  | q :: r, 0, p, _, h => by cases h; exact valV_pos rfl
  | q :: r, i + 1, p, nd, h => by
    obtain ⟨n1, n2⟩ := List.nodup_cons.mp nd
    have h' : r[i]? = some p := h
    rw [valV_neg (by
      intro z
      have m := List.mem_map_of_mem (f := fun x : Key × V => x.1) (List.mem_of_getElem? h')
      rw [← z] at m
      exact n1 m)]
    exact val_at n2 h'
def spPhoto (K : PySem.W.Frag) : Sp := fun vs H Q _ => ∃ (h : Addr) (S : Sta) (live : List Nat) (O : List Addr), vs = [.ref h] ∧ HeapAt K H h S live O ∧ S.names.map (·.1) = nmK ∧ (∀ k ∈ live, (S.th k).body.wf) ∧ live.length ≤ 1000 ∧
  ∀ p H' ks, Same H H' → H p = none → ks.Pairwise (· < ·) → (∀ k, k ∈ ks ↔ Reach S live k) → PhotoAt H H' p S ks → Q (.ref p) H'
theorem nums_srt {ks : List Nat} (nd : ks.Nodup) {ys : List Int} (hp : ys.Perm (ks.map fun (k : Nat) => (k : Int))) (hs : ys.Pairwise (· ≤ ·)) : ∃ js : List Nat, ys = js.map (fun (k : Nat) => (k : Int)) ∧ js.Pairwise (· < ·) ∧ ∀ k, k ∈ js ↔ k ∈ ks := by
  have e : ys = (ys.map Int.toNat).map (fun (k : Nat) => (k : Int)) := by
    rw [List.map_map]
    refine (List.map_id ys).symm.trans (List.map_congr_left fun y hy => ?_)
    obtain ⟨k, _, rfl⟩ := List.mem_map.mp (hp.mem_iff.mp hy)
    rfl
  have ndk : (ks.map fun (k : Nat) => (k : Int)).Nodup := by
    unfold List.Nodup
    rw [List.pairwise_map]
    exact nd.imp fun h z => h (Int.ofNat.inj z)
  have nys : ys.Nodup := hp.nodup_iff.mpr ndk
  refine ⟨ys.map Int.toNat, e, ?_, fun k => ?_⟩
  · rw [List.pairwise_map]
    have q := List.Pairwise.and hs nys
    refine q.imp_of_mem fun {a b} ha hb h => ?_
    obtain ⟨i, _, rfl⟩ := List.mem_map.mp (hp.mem_iff.mp ha)
    obtain ⟨j, _, rfl⟩ := List.mem_map.mp (hp.mem_iff.mp hb)
    have h1 := h.1
    have h2 := h.2
    show i < j
    omega
  · constructor
    · intro h
      obtain ⟨y, hy, rfl⟩ := List.mem_map.mp h
      obtain ⟨i, hi, rfl⟩ := List.mem_map.mp (hp.mem_iff.mp hy)
      exact hi
    · intro h
      exact List.mem_map.mpr ⟨(k : Int), hp.mem_iff.mpr (List.mem_map.mpr ⟨k, h, rfl⟩), rfl⟩
theorem reach_mem {S : Sta} {live : List Nat} {k : Nat} (h : Reach S live k) : k ∈ live := Rch.am h
theorem ok_Heap_photo (T : Tx w K mg) : DefOk ⟨P, w, K, mg, base⟩ 5 (ma K (ga K "Heap") "photo") ["self"] (spPhoto K) := by
  refine DefOk.mk' (f_Heap_photo T) sc_Heap_photo (fun _ _ _ _ _ _ us hl => match us, hl with | [_], _ => rfl) (fun vs H Q E h => ?_) (fun cdv A outer s H vs Q E hr h => ?_)
  · obtain ⟨h, S, live, O, rfl, _⟩ := h
    rfl
  · obtain ⟨h, S, live, O, rfl, hH, nk, wf, l1, k⟩ := h
    have hu := hu_of hr
    refine ⟨_, (pss_cons (ps_setLc (i := 2) (own := [("name", 1)]) (g := (gName 1)) rfl sc_Heap_photo.nd rfl rfl (sw_true rfl rfl rfl (by decide +kernel)) (pi_tup (pe_glob (v := .ref (ga K "NAMES")) rfl (g_NAMES T) rfl)) (blkOk_by (own := [("name", 1)]) (N := ["self", "name", "names", "number"]) (sc := defScope s_Heap_photo) (by decide +kernel)) (fun _ _ _ _ _ => (pg_name (i := 1) sc_Heap_photo.nd rfl (Or.inl rfl))) (fun _ _ _ _ _ => by exact pts_nil) (fun _ _ _ _ _ => by exact (pe_dget hu (pe_fldK (K := K) rfl (pv 0) rfl) (pv 1) (fun _ _ => rfl)))) (pss_one (ps_ret (pe_tup (pa_cons (pv 2) (pa_cons (pe_lc (own := [("number", 3)]) (g := (gName 3)) rfl sc_Heap_photo.nd (pi_list (pe_callB (cr_sortD rfl) (by rfl) (z_sorted T) (by decide +kernel) (pa_cons (pe_md0 (M := ⟨P, w, K, mg, base⟩) rfl hr (pv 0)) pa_nil))) (blkOk_by (own := [("number", 3)]) (N := ["self", "name", "names", "number"]) (sc := defScope s_Heap_photo) (by decide +kernel)) (fun _ _ _ _ _ => (pg_name (i := 3) sc_Heap_photo.nd rfl (Or.inl rfl))) (fun _ _ _ _ _ => by exact pts_nil) (fun _ _ _ _ _ => by exact (pe_cg (M := ⟨P, w, K, mg, base⟩) rfl hr rfl (pa_cons (pe_dget hu (pe_fldK (K := K) rfl (pv 0) rfl) (pv 3) (fun _ _ => rfl)) pa_nil)))) pa_nil)))))), ?_⟩
    obtain ⟨dh, n, t, ch, A', C', vs, e1, e2, e3, e4, e5, e6, e7⟩ := id hH
    have hL : ∀ H', SqT K H' (ga K "NAMES") (nmS.map V.str) := fun H' => strsB_ok (x_tup_NAMES T) H'
    have n8 : S.names.length = 8 := by rw [← List.length_map (f := (·.1)), nk]; rfl
    refine ⟨_, rfl, ⟨_, hL _⟩, fun D hD => ?_⟩
    refine lc_tup (K := K) (a := ga K "NAMES") (xs := nmS.map V.str) (fun i H' => Same H H' ∧ ∃ us, H' D = some (.lst us) ∧ LVR H us ((S.names.take i).map (·.2))) ⟨same_new hD, [], upd_same, .nil⟩ (fun i H' _ _ => hL H') ?_ ?_
    · rintro i x H' hi ⟨s1, us, h1, h2⟩
      rw [List.getElem?_map] at hi
      obtain ⟨y, hy, rfl⟩ := Option.map_eq_some_iff.mp hi
      have hy2 : (S.names.map (·.1))[i]? = some (.inr y) := by
        rw [nk]; unfold nmK; rw [List.getElem?_map, hy]; rfl
      rw [List.getElem?_map] at hy2
      obtain ⟨pr, hpr, epr⟩ := Option.map_eq_some_iff.mp hy2
      have hv : valV S.names (.inr y) = some pr.2 := by
        have nd : (S.names.map (·.1)).Nodup := by rw [nk]; decide +kernel
        have := val_at nd hpr
        rwa [epr] at this
      obtain ⟨u, hu2, ru⟩ := KVR.val_some e3 hv
      refine ⟨rfl, ?_⟩
      refine ⟨_, rfl, h, _, dh, _, _, rfl, s1 _ _ e1, c_Heap T, n_Heap_names T, heF_names, _, rfl, n, u, rfl, (by rw [← hu2]; exact DGet.k (k := .inr y) (s1 _ _ e2)), us, h1, szl (by rw [Paired.length h2, List.length_map, List.length_take]; omega), same_mut s1 hD, _, upd_same, ?_⟩
      rw [take_snoc hpr, List.map_append]
      exact Paired.app h2 (.cons ru .nil)
    · rintro H1 ⟨s1, us, h1, h2⟩
      rw [List.take_of_length_le (by rw [n8]; exact Nat.le_refl _)] at h2
      refine ⟨_, rfl, ?_⟩
      refine ⟨_, rfl, h, _, dh, _, _, _, _, _, rfl, s1 _ _ e1, (by kernel_rfl), c_Heap T, t_Heap_reach T, ok_Heap_reach T, by decide, h, S, live, O, rfl, hH.same s1, by omega, wf, l1, fun R H2 ks s2 nR hR ndk hks => ?_⟩
      refine ⟨R, _, ks.map (fun (k : Nat) => (k : Int)), rfl, .inl hR, (by rw [foundD_keys, List.map_map]; rfl), fun ys q hp hs nq => ?_⟩
      obtain ⟨js, rfl, jlt, jm⟩ := nums_srt ndk hp hs
      have s3 : Same H1 (upd H2 q (.lst ((js.map fun (k : Nat) => (k : Int)).map V.int))) := same_mut s2 (s2.free nq)
      refine ⟨_, rfl, ⟨_, SqL.of upd_same⟩, fun E hE => ?_⟩
      have nqE : q ≠ E := fun z => by rw [← z, upd_same] at hE; cases hE
      have hE1 : H1 E = none := s3.free hE
      have nDE : D ≠ E := ne_of_none h1 hE1
      have Hm_D : upd (upd H2 q (.lst ((js.map fun (k : Nat) => (k : Int)).map V.int))) E (.lst []) D = some (.lst us) := by rw [upd_ne nDE]; exact s3 _ _ h1
      have jl : js.length ≤ 1000 := Nat.le_trans (nodup_sub_len (am := live) (jlt.imp fun h => Nat.ne_of_lt h) fun k hk => reach_mem ((hks k).mp ((jm k).mp hk))) l1
      refine lc_list (K := K) (a := q) (xs := (js.map fun (k : Nat) => (k : Int)).map V.int)
        (fun i H' => Same (upd H2 q (.lst ((js.map fun (k : Nat) => (k : Int)).map V.int))) H' ∧ ∃ ts : List Addr, H' E = some (.lst (ts.map V.ref)) ∧
          Paired (fun t k => SnapAt (upd (upd H2 q (.lst ((js.map fun (k : Nat) => (k : Int)).map V.int))) E (.lst [])) H' t k (S.th k)) ts (js.take i))
        ⟨same_new hE, [], upd_same, .nil⟩ (fun i H' _ h => SqL.of (h.1 _ _ upd_same)) ?_ ?_
      · rintro i x H4 hi ⟨s4, ts, g1, g2⟩
        rw [List.map_map, List.getElem?_map] at hi
        obtain ⟨j, hj, rfl⟩ := Option.map_eq_some_iff.mp hi
        have hjl : j ∈ live := reach_mem ((hks j).mp ((jm j).mp (List.mem_of_getElem? hj)))
        have s5 := (s1.trans s3).trans s4
        refine ⟨rfl, ?_⟩
        refine ⟨_, _, _, _, g_snapshot T, ok_snapshot T, by decide, _, rfl, h, _, dh, _, _, rfl, s5 _ _ e1, c_Heap T, n_Heap_things T, heF_things, _, rfl, t, .ref (A' j), rfl, (by rw [← val_live (A := A') hjl]; exact DGet.k (k := .inl (j : Int)) (s5 _ _ e4)), ?_⟩
        refine ⟨A' j, C' j, j, S.th j, rfl, wf j hjl, (e5 j hjl).same s5, fun tt H6 s6 ntt ⟨lp, z1, z2, z3⟩ => ?_⟩
        refine ⟨_, s6 _ _ g1, szl (by rw [List.length_map, Paired.length g2, List.length_take]; omega), same_mut (s4.trans s6) hE, ts ++ [tt], ?_, ?_⟩
        · rw [List.map_append]; exact upd_same
        · rw [take_snoc hj]
          have nEt : tt ≠ E := (ne_of_none g1 ntt).symm
          have nElp : lp ≠ E := (ne_of_none g1 z3).symm
          have nlp : upd (upd H2 q (.lst ((js.map fun (k : Nat) => (k : Int)).map V.int))) E (.lst []) lp = none := by rw [upd_ne nElp]; exact s4.free z3
          -- what was told before stands
          have old : ∀ (t' : Addr) (k' : Nat), SnapAt (upd (upd H2 q (.lst ((js.map fun (k : Nat) => (k : Int)).map V.int))) E (.lst [])) H4 t' k' (S.th k') →
              SnapAt (upd (upd H2 q (.lst ((js.map fun (k : Nat) => (k : Int)).map V.int))) E (.lst [])) (upd H6 E (.lst (ts.map V.ref ++ [.ref tt]))) t' k' (S.th k') := fun t' k' ⟨l', y1, ⟨us', y2, y3⟩, y4⟩ => by
            have tp : Tup H4 (upd H6 E (.lst (ts.map V.ref ++ [.ref tt]))) := (Same.tup s6).trans (tup_upd (by rw [s6 _ _ g1]; intro xs z; cases z; rfl))
            have nl' : l' ≠ E := fun z => by rw [z, upd_same] at y4; cases y4
            exact ⟨l', tp _ _ y1, ⟨us', by rw [upd_ne nl']; exact s6 _ _ y2, Paired.imp (fun _ _ ⟨v, w1, w2⟩ => ⟨v, tp _ _ w1, VR.mono tp w2⟩) y3⟩, y4⟩
          refine Paired.app (Paired.imp old g2) (.cons ?_ .nil)
          have tp : Tup H6 (upd H6 E (.lst (ts.map V.ref ++ [.ref tt]))) := tup_upd (by rw [s6 _ _ g1]; intro xs z; cases z; rfl)
          obtain ⟨us', y2, y3⟩ := z2
          exact ⟨lp, tp _ _ z1, ⟨us', by rw [upd_ne nElp]; exact y2, Paired.imp (fun _ _ ⟨v, w1, w2⟩ => ⟨v, tp _ _ w1, VR.mono tp w2⟩) y3⟩, nlp⟩
      · rintro H4 ⟨s4, ts, g1, g2⟩
        rw [List.take_of_length_le (by rw [List.length_map, List.length_map]; exact Nat.le_refl _)] at g2
        refine ⟨by show 2 ≤ sizeLine; decide, fun p hp4 => ?_⟩
        have s5 := (s1.trans s3).trans s4
        have s6 : Same H4 (upd H4 p (.tup [.ref D, .ref E])) := same_new hp4
        refine k p _ js (s5.trans s6) (s5.free hp4) jlt (fun k => (jm k).trans (hks k)) ⟨D, E, us, ts, upd_same, s6 _ _ ((s3.trans s4) _ _ h1), LVR.mono (Same.tup (s5.trans s6)) h2, s6 _ _ g1, hD, s1.free hE1, nDE, _, (s1.trans s3).trans (same_new hE), ⟨_, Hm_D⟩, ⟨_, upd_same⟩, Paired.imp (fun _ _ z => SnapAt.same s6 z) g2⟩
end
end WK
namespace WK
open PySem PySem.Spec PyProof.Rows L2 He WB
section
variable {P : Program} {w : World} {K : PySem.W.Frag} {mg : Str → Option Value} {base : Heap}
theorem _root_.WB.Ok.val {S : Sta} (o : WB.Ok S) {x : Str} (hx : x ∈ nmS) : valV S.names (.inr x) = some (S.look x) := by
  have m : (.inr x : Key) ∈ S.names.map (·.1) := by
    rw [o.names]; exact List.mem_map_of_mem hx
  unfold Sta.look
  cases e : valV S.names (.inr x) with
  | some v => rfl
  | none => exact absurd m (valV_not e)
theorem _root_.WB.Ok.n8 {S : Sta} (o : WB.Ok S) : S.names.length = 8 := by
  rw [← List.length_map (f := (·.1)), o.names]; rfl
theorem mem_refs {vs : List V} {j : Nat} (h : V.ref j ∈ vs) : j ∈ refs vs := List.mem_filterMap.mpr ⟨_, h, rfl⟩
theorem valV_mem {kvs : List (Key × V)} {k : Key} {v : V} (h : valV kvs k = some v) : v ∈ kvs.map (·.2) := by
  unfold valV at h
  obtain ⟨p, hp, e⟩ := Option.map_eq_some_iff.mp h
  exact List.mem_map.mpr ⟨p, List.mem_of_find?_eq_some hp, e⟩
theorem _root_.WB.Ok.look_live {S : Sta} {live : List Nat} (o : WB.Ok S) (l : Liv S live) {x : Str} (hx : x ∈ nmS) {j : Nat} (e : S.look x = .ref j) : j ∈ live := by
  refine l.kept j (.start (List.mem_append_left _ (mem_refs ?_)) trivial)
  have := valV_mem (o.val hx)
  rwa [e] at this
def spDo (K : PySem.W.Frag) (tag : Nat) : Sp := fun vs H Q _ => ∃ (h : Addr) (S : Sta) (live : List Nat) (O : List Addr) (dh n t : Addr) (A C : Nat → Addr) (d : Deed), d.tag = tag ∧ d.ok ∧ vs = .ref h :: d.args ∧ HeapX K H h S live O dh n t .non A C ∧ WB.Ok S ∧ Liv S live ∧
  ∀ r H' S' live' O' ch' A' C' told chg, StepR S d S' told chg → live' = (if S'.made = S.made then live else live ++ [S.made]) → Stp O H H' → Frs O O' H → TRF H O' H' r told → ChR H' ch' chg → HeapX K H' h S' live' O' dh n t ch' A' C' → Q r H'
theorem ok_do_make (T : Tx w K mg) : DefOk ⟨P, w, K, mg, base⟩ 6 (ga K "do_make") ["heap", "name", "kind"] (spDo K 0) := by
  refine DefOk.mk' (f_do_make T) sc_do_make (fun _ _ _ _ _ _ us hl => match us, hl with | [_, _, _], _ => rfl) (fun vs H Q E h => ?_) (fun cdv A outer s H vs Q E hr h => ?_)
  · obtain ⟨h, S, live, O, dh, n, t, A', C', d, ht, hd, rfl, _⟩ := h
    cases d <;> first | rfl | cases ht
  · obtain ⟨h, S, live, O, dh, n, t, A', C', d, ht, hd, rfl, X, ok, lv, k⟩ := h
    have hu := hu_of hr
    refine ⟨_, (pss_one (ps_ret (pe_md (M := ⟨P, w, K, mg, base⟩) rfl hr (pv 0) (pa_cons (pv 1) (pa_cons (pe_cg (M := ⟨P, w, K, mg, base⟩) rfl hr rfl (pa_cons (pe_fld (pv 0) rfl) (pa_cons (pv 2) pa_nil))) pa_nil))))), ?_⟩
    cases d <;> try cases ht
    rename_i x kind
    obtain ⟨hx, hk⟩ := hd
    obtain ⟨vs, e1, e2, e3, e4, e5, e6, e7⟩ := id X
    refine ⟨_, rfl, h, _, dh, _, _, _, _, _, rfl, e1, (by kernel_rfl), c_Heap T, t_Heap_bring T, ok_Heap_bring T, by decide, _, rfl, ?_⟩
    refine ⟨_, _, _, _, g_new_thing T, ok_new_thing T, by decide, _, rfl, h, _, dh, _, _, rfl, e1, c_Heap T, n_Heap_made T, heF_made, _, rfl, S.made, kind, rfl, hk, fun a c H1 s1 na nc ncs hth => ?_⟩
    have cO : c ∉ O := fun z => (e7.tr c z).ne nc
    have nsC : NS H1 c := by
      obtain ⟨u, e, _, q⟩ := hth.cell (by show (emptyB kind).isWat = false; unfold emptyB; split; rfl; split <;> rfl)
      exact ⟨u, e, q⟩
    refine ⟨h, S, live, O, dh, n, t, .non, A', C', x, a, c, ⟨emptyB kind, .no, .non⟩, rfl, X.same s1, lv.lt, by have := lv.len; omega, by rw [ok.n8]; exact Nat.le_refl _, hth, fun _ => cO, nsC, fun p H2 st vp X2 => ?_⟩
    refine k (.ref p) H2 _ _ (a :: c :: O) .non _ _ _ _ (.other (fun z => by cases z)) ?_ ((Stp.of_same s1).trans' st) ?_ ?_ rfl X2
    · show _ = if S.made + 1 = S.made then _ else _
      rw [if_neg (by omega)]
    · intro b hb
      rcases List.mem_cons.mp hb with rfl | hb
      · exact .inr na
      · rcases List.mem_cons.mp hb with rfl | hb
        · exact .inr nc
        · exact .inl hb
    · exact ⟨vp, trivial⟩
end
end WK
namespace WK
open PySem PySem.Spec PyProof.Rows L2 He WB
section
variable {P : Program} {w : World} {K : PySem.W.Frag} {mg : Str → Option Value} {base : Heap}
theorem VR.ntup {H : Hp} {n : Addr} {vs : List (Key × V)} (e : H n = some (.dK vs)) {o : HO} : Tup H (upd H n o) := tup_upd (by rw [e]; intro xs z; cases z; rfl)
theorem TR.of {H : Hp} {r v : V} (h : VR H r v) : TR H r (.val v) := by
  cases v <;> first | exact h | exact h.elim
theorem TRF.of {H0 H : Hp} {O : List Addr} {r v : V} (h : VR H r v) : TRF H0 O H r (.val v) := ⟨TR.of h, trivial⟩
theorem same_live {S S' : Sta} {live : List Nat} (h : S'.made = S.made) : live = (if S'.made = S.made then live else live ++ [S.made]) := by rw [if_pos h]
theorem ok_do_num (T : Tx w K mg) : DefOk ⟨P, w, K, mg, base⟩ 1 (ga K "do_num") ["heap", "name", "number"] (spDo K 1) := by
  refine DefOk.mk' (f_do_num T) sc_do_num (fun _ _ _ _ _ _ us hl => match us, hl with | [_, _, _], _ => rfl) (fun vs H Q E h => ?_) (fun cdv A outer s H vs Q E hr h => ?_)
  · obtain ⟨h, S, live, O, dh, n, t, A', C', d, ht, hd, rfl, _⟩ := h
    cases d <;> first | rfl | cases ht
  · obtain ⟨h, S, live, O, dh, n, t, A', C', d, ht, hd, rfl, X, ok, lv, k⟩ := h
    have hu := hu_of hr
    refine ⟨_, (pss_cons (ps_dput hu (pe_fld (pv 0) rfl) (pv 1) (pv 2) rfl) (pss_one (ps_ret pe_non))), ?_⟩
    cases d <;> try cases ht
    rename_i x i
    obtain ⟨vs, e1, e2, e3, e4, e5, e6, e7⟩ := id X
    have ls : vs.length < sizeLine := szl (by rw [KVR.length e3, ok.n8]; decide)
    refine ⟨_, rfl, _, rfl, h, _, dh, _, _, rfl, e1, c_Heap T, n_Heap_names T, heF_names, _, rfl, n, _, rfl, DPut.k (k := .inr x) e2 ls, ?_⟩
    exact k .non _ _ live O .non A' C' _ _ (.other (fun z => by cases z)) (same_live rfl) (Stp.upd (.inl e7.n)) (Frs.refl _ _) ⟨rfl, trivial⟩ rfl (X.name (KVR.put (VR.int i) (KVR.mono (VR.ntup e2) e3)))
theorem ok_do_copy (T : Tx w K mg) : DefOk ⟨P, w, K, mg, base⟩ 1 (ga K "do_copy") ["heap", "name", "other"] (spDo K 2) := by
  refine DefOk.mk' (f_do_copy T) sc_do_copy (fun _ _ _ _ _ _ us hl => match us, hl with | [_, _, _], _ => rfl) (fun vs H Q E h => ?_) (fun cdv A outer s H vs Q E hr h => ?_)
  · obtain ⟨h, S, live, O, dh, n, t, A', C', d, ht, hd, rfl, _⟩ := h
    cases d <;> first | rfl | cases ht
  · obtain ⟨h, S, live, O, dh, n, t, A', C', d, ht, hd, rfl, X, ok, lv, k⟩ := h
    have hu := hu_of hr
    refine ⟨_, (pss_cons (ps_dput hu (pe_fld (pv 0) rfl) (pv 1) (pe_dget hu (pe_fld (pv 0) rfl) (pv 2) (fun _ _ => rfl)) rfl) (pss_one (ps_ret pe_non))), ?_⟩
    cases d <;> try cases ht
    rename_i x y
    obtain ⟨hx, hy⟩ := hd
    obtain ⟨vs, e1, e2, e3, e4, e5, e6, e7⟩ := id X
    have ls : vs.length < sizeLine := szl (by rw [KVR.length e3, ok.n8]; decide)
    obtain ⟨u, hu2, ru⟩ := KVR.val_some e3 (ok.val hy)
    refine ⟨_, rfl, h, _, dh, _, _, rfl, e1, c_Heap T, n_Heap_names T, heF_names, _, rfl, n, u, rfl, (by rw [← hu2]; exact DGet.k (k := .inr y) e2), ?_⟩
    refine ⟨_, rfl, h, _, dh, _, _, rfl, e1, c_Heap T, n_Heap_names T, heF_names, _, rfl, n, _, rfl, DPut.k (k := .inr x) e2 ls, ?_⟩
    exact k .non _ _ live O .non A' C' _ _ (.other (fun z => by cases z)) (same_live rfl) (Stp.upd (.inl e7.n)) (Frs.refl _ _) ⟨rfl, trivial⟩ rfl (X.name (KVR.put (VR.mono (VR.ntup e2) ru) (KVR.mono (VR.ntup e2) e3)))
theorem ok_do_drop (T : Tx w K mg) : DefOk ⟨P, w, K, mg, base⟩ 1 (ga K "do_drop") ["heap", "name"] (spDo K 3) := by
  refine DefOk.mk' (f_do_drop T) sc_do_drop (fun _ _ _ _ _ _ us hl => match us, hl with | [_, _], _ => rfl) (fun vs H Q E h => ?_) (fun cdv A outer s H vs Q E hr h => ?_)
  · obtain ⟨h, S, live, O, dh, n, t, A', C', d, ht, hd, rfl, _⟩ := h
    cases d <;> first | rfl | cases ht
  · obtain ⟨h, S, live, O, dh, n, t, A', C', d, ht, hd, rfl, X, ok, lv, k⟩ := h
    have hu := hu_of hr
    refine ⟨_, (pss_cons (ps_dput hu (pe_fld (pv 0) rfl) (pv 1) pe_non rfl) (pss_one (ps_ret pe_non))), ?_⟩
    cases d <;> try cases ht
    rename_i x
    obtain ⟨vs, e1, e2, e3, e4, e5, e6, e7⟩ := id X
    have ls : vs.length < sizeLine := szl (by rw [KVR.length e3, ok.n8]; decide)
    refine ⟨_, rfl, h, _, dh, _, _, rfl, e1, c_Heap T, n_Heap_names T, heF_names, _, rfl, n, _, rfl, DPut.k (k := .inr x) e2 ls, ?_⟩
    exact k .non _ _ live O .non A' C' _ _ (.other (fun z => by cases z)) (same_live rfl) (Stp.upd (.inl e7.n)) (Frs.refl _ _) ⟨rfl, trivial⟩ rfl (X.name (KVR.put VR.non (KVR.mono (VR.ntup e2) e3)))
theorem ok_do_say (T : Tx w K mg) : DefOk ⟨P, w, K, mg, base⟩ 1 (ga K "do_say") ["heap", "name"] (spDo K 11) := by
  refine DefOk.mk' (f_do_say T) sc_do_say (fun _ _ _ _ _ _ us hl => match us, hl with | [_, _], _ => rfl) (fun vs H Q E h => ?_) (fun cdv A outer s H vs Q E hr h => ?_)
  · obtain ⟨h, S, live, O, dh, n, t, A', C', d, ht, hd, rfl, _⟩ := h
    cases d <;> first | rfl | cases ht
  · obtain ⟨h, S, live, O, dh, n, t, A', C', d, ht, hd, rfl, X, ok, lv, k⟩ := h
    have hu := hu_of hr
    refine ⟨_, (pss_one (ps_ret (pe_dget hu (pe_fld (pv 0) rfl) (pv 1) (fun _ _ => rfl)))), ?_⟩
    cases d <;> try cases ht
    rename_i x
    obtain ⟨vs, e1, e2, e3, e4, e5, e6, e7⟩ := id X
    obtain ⟨u, hu2, ru⟩ := KVR.val_some e3 (ok.val hd)
    refine ⟨_, rfl, h, _, dh, _, _, rfl, e1, c_Heap T, n_Heap_names T, heF_names, _, rfl, n, u, rfl, (by rw [← hu2]; exact DGet.k (k := .inr x) e2), ?_⟩
    exact k u H _ live O .non A' C' _ _ (.other (fun z => by cases z)) (same_live rfl) (Stp.refl _ _) (Frs.refl _ _) (TRF.of ru) rfl X
theorem ok_do_put (T : Tx w K mg) : DefOk ⟨P, w, K, mg, base⟩ 3 (ga K "do_put") ["heap", "name", "part", "other"] (spDo K 4) := by
  refine DefOk.mk' (f_do_put T) sc_do_put (fun _ _ _ _ _ _ us hl => match us, hl with | [_, _, _, _], _ => rfl) (fun vs H Q E h => ?_) (fun cdv A outer s H vs Q E hr h => ?_)
  · obtain ⟨h, S, live, O, dh, n, t, A', C', d, ht, hd, rfl, _⟩ := h
    cases d <;> first | rfl | cases ht
  · obtain ⟨h, S, live, O, dh, n, t, A', C', d, ht, hd, rfl, X, ok, lv, k⟩ := h
    have hu := hu_of hr
    refine ⟨_, (pss_cons (ps_set (i := 4) sc_do_put.nd rfl (Or.inl rfl) (pe_md (M := ⟨P, w, K, mg, base⟩) rfl hr (pv 0) (pa_cons (pv 1) pa_nil))) (pss_cons (ps_if (PW.pt (pw_or (pt_cmpR op_isN (pv 4) pe_non (nomark _)) (pw_or1 (pt_not (pt_val (pe_md (M := ⟨P, w, K, mg, base⟩) rfl hr (pv 4) (pa_cons (pv 2) pa_nil))))))) (pss_one (ps_ret (pe_glob (v := .str "no") rfl (i_CANNOT T).choose_spec ⟨_, rfl⟩))) pss_nil) (pss_cons (ps_expr (pe_md (M := ⟨P, w, K, mg, base⟩) rfl hr (pv 0) (pa_cons (pv 4) (pa_cons (pv 2) (pa_cons (pe_dget hu (pe_fld (pv 0) rfl) (pv 3) (fun _ _ => rfl)) pa_nil))))) (pss_one (ps_ret pe_non))))), ?_⟩
    cases d <;> try cases ht
    rename_i x y z
    obtain ⟨hx, hy, hz⟩ := hd
    obtain ⟨vs, e1, e2, e3, e4, e5, e6, e7⟩ := id X
    obtain ⟨u, hu2, ru⟩ := KVR.val_some e3 (ok.val hz)
    obtain ⟨ux, hux2, rux⟩ := KVR.val_some e3 (ok.val hx)
    have no : ∀ (H1 : Hp), Same H H1 → stepF S (.put x y z) = (S, noT, none) → Q (.str "no") H1 := fun H1 s1 e =>
      k (.str "no") H1 S live O .non A' C' _ _ (StepR.by (fun z => by cases z) e) (same_live rfl) (Stp.of_same s1) (Frs.refl _ _) ⟨rfl, trivial⟩ rfl (X.same s1)
    refine ⟨_, rfl, h, _, dh, _, _, _, _, _, rfl, e1, (by kernel_rfl), c_Heap T, t_Heap_thing_of T, ok_Heap_thing_of T, by decide, _, rfl, h, S, live, O, dh, n, t, .non, A', C', x, _, rfl, X, ok.val hx, fun j e => ok.look_live lv hx e, ?_⟩
    refine ⟨_, rfl, rfl, _, rfl, ?_⟩
    rcases rux.cases with ⟨_, el⟩ | ⟨i, _, el⟩ | ⟨b, j, _, el, _⟩
    · rw [el]; exact no H (Same.refl H) (put_no (by rw [el]; intro j z; cases z))
    · rw [el]; exact no H (Same.refl H) (put_no (by rw [el]; intro j z; cases z))
    · rw [el]
      have hj := ok.look_live lv hx el
      obtain ⟨dx, pv, g1, g2⟩ := id (e5 j hj)
      refine ⟨_, rfl, A' j, _, dx, _, _, _, _, _, rfl, g1, thF_no_fits _, b_cls T _, bt_fits T _, ok_fits_b T _, by decide, _, rfl, A' j, C' j, j, S.th j, y, rfl, Body.like_refl _, e5 j hj, fun H1 s1 => ⟨_, rfl, ?_⟩⟩
      cases hf : (S.th j).body.fits y with
      | false => exact no H1 s1 (put_no' el hf)
      | true =>
        have X1 := X.same s1
        obtain ⟨vs1, f1, f2, f3, f4, f5, f6, f7⟩ := id X1
        have nw : (S.th j).body.isWat = false := by
          cases q : (S.th j).body with
          | wat s g => rw [q] at hf; cases hf
          | dic r z => rfl
          | row z => rfl
        refine ⟨_, rfl, h, _, dh, _, _, _, _, _, rfl, f1, (by kernel_rfl), c_Heap T, t_Heap_store T, ok_Heap_store T, by decide, _, rfl, _, rfl, _, rfl, h, _, dh, _, _, rfl, f1, c_Heap T, n_Heap_names T, heF_names, _, rfl, n, u, rfl, (by rw [← hu2]; exact DGet.k (k := .inr z) (s1 _ _ e2)), ?_⟩
        refine ⟨h, S, live, O, dh, n, t, .non, A', C', j, y, u, S.look z, rfl, X1, hj, nw, ok.wf j (lv.lt j hj), hf, VR.mono (Same.tup s1) ru, fun q u1 H2 st hq ru1 tp X2 => ?_⟩
        exact k .non H2 _ live O (.ref q) A' C' _ _ (StepR.by (fun z => by cases z) (put_yes el hf)) (same_live rfl) ((Stp.of_same s1).trans' st) (Frs.refl _ _) ⟨rfl, trivial⟩ ⟨q, u1, u, rfl, hq, ru1, tp⟩ X2
end
end WK
namespace WK
open PySem PySem.Spec PyProof.Rows L2 He WB
section
variable {P : Program} {w : World} {K : PySem.W.Frag} {mg : Str → Option Value} {base : Heap}
theorem ok_do_take (T : Tx w K mg) : DefOk ⟨P, w, K, mg, base⟩ 3 (ga K "do_take") ["heap", "name", "other", "part"] (spDo K 5) := by
  refine DefOk.mk' (f_do_take T) sc_do_take (fun _ _ _ _ _ _ us hl => match us, hl with | [_, _, _, _], _ => rfl) (fun vs H Q E h => ?_) (fun cdv A outer s H vs Q E hr h => ?_)
  · obtain ⟨h, S, live, O, dh, n, t, A', C', d, ht, hd, rfl, _⟩ := h
    cases d <;> first | rfl | cases ht
  · obtain ⟨h, S, live, O, dh, n, t, A', C', d, ht, hd, rfl, X, ok, lv, k⟩ := h
    have hu := hu_of hr
    refine ⟨_, (pss_cons (ps_set (i := 4) sc_do_take.nd rfl (Or.inl rfl) (pe_md (M := ⟨P, w, K, mg, base⟩) rfl hr (pv 0) (pa_cons (pv 2) pa_nil))) (pss_cons (ps_if (PW.pt (pw_or (pt_cmpR op_isN (pv 4) pe_non (nomark _)) (pw_or1 (pt_not (pt_val (pe_md (M := ⟨P, w, K, mg, base⟩) rfl hr (pv 4) (pa_cons (pv 3) pa_nil))))))) (pss_one (ps_ret (pe_glob (v := .str "no") rfl (i_CANNOT T).choose_spec ⟨_, rfl⟩))) pss_nil) (pss_cons (ps_dput hu (pe_fld (pv 0) rfl) (pv 1) (pe_md (M := ⟨P, w, K, mg, base⟩) rfl hr (pv 4) (pa_cons (pv 3) pa_nil)) rfl) (pss_one (ps_ret (pe_dget hu (pe_fld (pv 0) rfl) (pv 1) (fun _ _ => rfl))))))), ?_⟩
    cases d <;> try cases ht
    rename_i x y z
    obtain ⟨hx, hy, hz⟩ := hd
    obtain ⟨vs, e1, e2, e3, e4, e5, e6, e7⟩ := id X
    obtain ⟨ux, hux2, rux⟩ := KVR.val_some e3 (ok.val hy)
    have no : ∀ (H1 : Hp), Same H H1 → stepF S (.take x y z) = (S, noT, none) → Q (.str "no") H1 := fun H1 s1 e =>
      k (.str "no") H1 S live O .non A' C' _ _ (StepR.by (fun z => by cases z) e) (same_live rfl) (Stp.of_same s1) (Frs.refl _ _) ⟨rfl, trivial⟩ rfl (X.same s1)
    refine ⟨_, rfl, h, _, dh, _, _, _, _, _, rfl, e1, (by kernel_rfl), c_Heap T, t_Heap_thing_of T, ok_Heap_thing_of T, by decide, _, rfl, h, S, live, O, dh, n, t, .non, A', C', y, _, rfl, X, ok.val hy, fun j e => ok.look_live lv hy e, ?_⟩
    refine ⟨_, rfl, rfl, _, rfl, ?_⟩
    rcases rux.cases with ⟨_, el⟩ | ⟨i, _, el⟩ | ⟨b, j, _, el, _⟩
    · rw [el]; exact no H (Same.refl H) (take_no (by rw [el]; intro j z; cases z))
    · rw [el]; exact no H (Same.refl H) (take_no (by rw [el]; intro j z; cases z))
    · rw [el]
      have hj := ok.look_live lv hy el
      obtain ⟨dx, pv, g1, g2⟩ := id (e5 j hj)
      refine ⟨_, rfl, A' j, _, dx, _, _, _, _, _, rfl, g1, thF_no_has _, b_cls T _, bt_has T _, ok_has_b T _, by decide, _, rfl, A' j, C' j, j, S.th j, z, rfl, Body.like_refl _, e5 j hj, fun H1 s1 => ⟨_, rfl, ?_⟩⟩
      cases hf : (S.th j).body.has z with
      | false => exact no H1 s1 (take_no' el hf)
      | true =>
        have X1 := X.same s1
        obtain ⟨vs1, f1, f2, f3, f4, f5, f6, f7⟩ := id X1
        have nw : (S.th j).body.isWat = false := by
          cases q : (S.th j).body with
          | wat s g => rw [q] at hf; cases hf
          | dic r z => rfl
          | row z => rfl
        obtain ⟨d1, p1, q1, q2⟩ := id (f5 j hj)
        have ls : vs1.length < sizeLine := szl (by rw [KVR.length f3, ok.n8]; decide)
        refine ⟨_, rfl, A' j, _, d1, _, _, _, _, _, rfl, q1, thF_no_at _, b_cls T _, bt_at T _ (Body.notWat nw), ok_at_b T _ nw, by decide, _, rfl, A' j, C' j, j, S.th j, z, rfl, Body.like_refl _, hf, f5 j hj, fun u ru => ?_⟩
        refine ⟨_, rfl, h, _, dh, _, _, rfl, f1, c_Heap T, n_Heap_names T, heF_names, _, rfl, n, _, rfl, DPut.k (k := .inr x) f2 ls, ?_⟩
        have ru2 : VR (upd H1 n (.dK (putK vs1 (.inr x) u))) u ((S.th j).body.at z) := VR.mono (VR.ntup f2) ru
        have X2 := X1.name (KVR.put ru2 (KVR.mono (VR.ntup f2) f3))
        have hv : valV (putK vs1 (.inr x) u) (.inr x) = some u := by rw [valV_put, if_pos rfl]
        obtain ⟨vs2, r1, r2, r3, r4, r5, r6, r7⟩ := id X2
        refine ⟨_, rfl, h, _, dh, _, _, rfl, r1, c_Heap T, n_Heap_names T, heF_names, _, rfl, n, u, rfl, (by rw [← hv]; exact DGet.k (k := .inr x) upd_same), ?_⟩
        exact k u _ _ live O .non A' C' _ _ (StepR.by (fun z => by cases z) (take_yes el hf)) (same_live rfl) ((Stp.of_same s1).trans' (Stp.upd (.inl e7.n))) (Frs.refl _ _) (TRF.of ru2) rfl X2
theorem ok_do_cut (T : Tx w K mg) : DefOk ⟨P, w, K, mg, base⟩ 3 (ga K "do_cut") ["heap", "name", "part"] (spDo K 6) := by
  refine DefOk.mk' (f_do_cut T) sc_do_cut (fun _ _ _ _ _ _ us hl => match us, hl with | [_, _, _], _ => rfl) (fun vs H Q E h => ?_) (fun cdv A outer s H vs Q E hr h => ?_)
  · obtain ⟨h, S, live, O, dh, n, t, A', C', d, ht, hd, rfl, _⟩ := h
    cases d <;> first | rfl | cases ht
  · obtain ⟨h, S, live, O, dh, n, t, A', C', d, ht, hd, rfl, X, ok, lv, k⟩ := h
    have hu := hu_of hr
    refine ⟨_, (pss_cons (ps_set (i := 3) sc_do_cut.nd rfl (Or.inl rfl) (pe_md (M := ⟨P, w, K, mg, base⟩) rfl hr (pv 0) (pa_cons (pv 1) pa_nil))) (pss_cons (ps_if (PW.pt (pw_or (pt_cmpR op_isN (pv 3) pe_non (nomark _)) (pw_or1 (pt_not (pt_val (pe_md (M := ⟨P, w, K, mg, base⟩) rfl hr (pv 3) (pa_cons (pv 2) pa_nil))))))) (pss_one (ps_ret (pe_glob (v := .str "no") rfl (i_CANNOT T).choose_spec ⟨_, rfl⟩))) pss_nil) (pss_cons (ps_expr (pe_md (M := ⟨P, w, K, mg, base⟩) rfl hr (pv 0) (pa_cons (pv 3) (pa_cons (pv 2) pa_nil)))) (pss_one (ps_ret pe_non))))), ?_⟩
    cases d <;> try cases ht
    rename_i x z
    obtain ⟨hx, hz⟩ := hd
    obtain ⟨vs, e1, e2, e3, e4, e5, e6, e7⟩ := id X
    obtain ⟨ux, hux2, rux⟩ := KVR.val_some e3 (ok.val hx)
    have no : ∀ (H1 : Hp), Same H H1 → stepF S (.cut x z) = (S, noT, none) → Q (.str "no") H1 := fun H1 s1 e =>
      k (.str "no") H1 S live O .non A' C' _ _ (StepR.by (fun z => by cases z) e) (same_live rfl) (Stp.of_same s1) (Frs.refl _ _) ⟨rfl, trivial⟩ rfl (X.same s1)
    refine ⟨_, rfl, h, _, dh, _, _, _, _, _, rfl, e1, (by kernel_rfl), c_Heap T, t_Heap_thing_of T, ok_Heap_thing_of T, by decide, _, rfl, h, S, live, O, dh, n, t, .non, A', C', x, _, rfl, X, ok.val hx, fun j e => ok.look_live lv hx e, ?_⟩
    refine ⟨_, rfl, rfl, _, rfl, ?_⟩
    rcases rux.cases with ⟨_, el⟩ | ⟨i, _, el⟩ | ⟨b, j, _, el, _⟩
    · rw [el]; exact no H (Same.refl H) (cut_no (by rw [el]; intro j z; cases z))
    · rw [el]; exact no H (Same.refl H) (cut_no (by rw [el]; intro j z; cases z))
    · rw [el]
      have hj := ok.look_live lv hx el
      obtain ⟨dx, pv, g1, g2⟩ := id (e5 j hj)
      refine ⟨_, rfl, A' j, _, dx, _, _, _, _, _, rfl, g1, thF_no_has _, b_cls T _, bt_has T _, ok_has_b T _, by decide, _, rfl, A' j, C' j, j, S.th j, z, rfl, Body.like_refl _, e5 j hj, fun H1 s1 => ⟨_, rfl, ?_⟩⟩
      cases hf : (S.th j).body.has z with
      | false => exact no H1 s1 (cut_no' el hf)
      | true =>
        have X1 := X.same s1
        obtain ⟨vs1, f1, f2, f3, f4, f5, f6, f7⟩ := id X1
        have nw : (S.th j).body.isWat = false := by
          cases q : (S.th j).body with
          | wat s g => rw [q] at hf; cases hf
          | dic r z => rfl
          | row z => rfl
        refine ⟨_, rfl, h, _, dh, _, _, _, _, _, rfl, f1, (by kernel_rfl), c_Heap T, t_Heap_strike T, ok_Heap_strike T, by decide, _, rfl, _, rfl, ?_⟩
        refine ⟨h, S, live, O, dh, n, t, .non, A', C', j, z, rfl, X1, hj, nw, ok.wf j (lv.lt j hj), hf, fun q u1 H2 st hq ru1 X2 => ?_⟩
        exact k .non H2 _ live O (.ref q) A' C' _ _ (StepR.by (fun z => by cases z) (cut_yes el hf)) (same_live rfl) ((Stp.of_same s1).trans' st) (Frs.refl _ _) ⟨rfl, trivial⟩ ⟨q, u1, .non, rfl, hq, ru1, rfl⟩ X2
theorem ok_do_watch (T : Tx w K mg) : DefOk ⟨P, w, K, mg, base⟩ 4 (ga K "do_watch") ["heap", "name", "other"] (spDo K 7) := by
  refine DefOk.mk' (f_do_watch T) sc_do_watch (fun _ _ _ _ _ _ us hl => match us, hl with | [_, _, _], _ => rfl) (fun vs H Q E h => ?_) (fun cdv A outer s H vs Q E hr h => ?_)
  · obtain ⟨h, S, live, O, dh, n, t, A', C', d, ht, hd, rfl, _⟩ := h
    cases d <;> first | rfl | cases ht
  · obtain ⟨h, S, live, O, dh, n, t, A', C', d, ht, hd, rfl, X, ok, lv, k⟩ := h
    have hu := hu_of hr
    refine ⟨_, (pss_cons (ps_set (i := 3) sc_do_watch.nd rfl (Or.inl rfl) (pe_dget hu (pe_fld (pv 0) rfl) (pv 2) (fun _ _ => rfl))) (pss_cons (ps_if (pt_not (pt_val (pe_cg (M := ⟨P, w, K, mg, base⟩) rfl hr rfl (pa_cons (pv 3) pa_nil)))) (pss_one (ps_ret (pe_glob (v := .str "no") rfl (i_CANNOT T).choose_spec ⟨_, rfl⟩))) pss_nil) (pss_one (ps_ret (pe_md (M := ⟨P, w, K, mg, base⟩) rfl hr (pv 0) (pa_cons (pv 1) (pa_cons (pe_mg (M := ⟨P, w, K, mg, base⟩) rfl hr rfl (pa_cons (pe_fld (pv 0) rfl) (pa_cons (pv 3) pa_nil))) pa_nil))))))), ?_⟩
    cases d <;> try cases ht
    rename_i x y
    obtain ⟨hx, hy⟩ := hd
    obtain ⟨vs, e1, e2, e3, e4, e5, e6, e7⟩ := id X
    obtain ⟨u, hu2, ru⟩ := KVR.val_some e3 (ok.val hy)
    have no : stepF S (.watch x y) = (S, noT, none) → Q (.str "no") H := fun e =>
      k (.str "no") H S live O .non A' C' _ _ (StepR.by (fun z => by cases z) e) (same_live rfl) (Stp.refl _ _) (Frs.refl _ _) ⟨rfl, trivial⟩ rfl X
    refine ⟨_, rfl, h, _, dh, _, _, rfl, e1, c_Heap T, n_Heap_names T, heF_names, _, rfl, n, u, rfl, (by rw [← hu2]; exact DGet.k (k := .inr y) e2), ?_⟩
    refine ⟨_, _, _, _, g_is_thing T, ok_is_thing T, by decide, _, rfl, u, S.look y, rfl, ru, _, rfl, ?_⟩
    rcases ru.cases with ⟨eu, el⟩ | ⟨i, eu, el⟩ | ⟨b, j, eu, el, eb⟩
    · rw [el]; exact no (watch_no (by rw [el]; intro j z; cases z))
    · rw [el]; exact no (watch_no (by rw [el]; intro j z; cases z))
    · rw [el]
      refine ⟨_, rfl, h, _, dh, _, _, _, _, _, rfl, e1, (by kernel_rfl), c_Heap T, t_Heap_bring T, ok_Heap_bring T, by decide, _, rfl, ?_⟩
      refine ⟨_, _, _, _, _, g_Watch T, m_Watch T, ok_Watch_init T, by decide, _, rfl, h, _, dh, _, _, rfl, e1, c_Heap T, n_Heap_made T, heF_made, _, rfl, fun a dx na ndx ne => ⟨a, dx, S.made, u, rfl, upd_same, rfl, ?_⟩⟩
      rw [upd_upd]
      have s1 : Same H (upd (upd H dx (.own a)) a (.ins (ga K "Watch") dx (thF S.made "watch" false false .non "sees" u))) := same_mut (same_new ndx) na
      have hth : ThAt K (upd (upd H dx (.own a)) a (.ins (ga K "Watch") dx (thF S.made "watch" false false .non "sees" u))) a a S.made ⟨.wat j false, .no, .non⟩ :=
        ⟨dx, u, upd_same, (show VR _ u (.ref j) from VR.mono (Same.tup s1) (by rw [el] at ru; exact ru))⟩
      refine ⟨h, S, live, O, dh, n, t, .non, A', C', x, a, a, ⟨.wat j false, .no, .non⟩, rfl, X.same s1, lv.lt, by have := lv.len; omega, by rw [ok.n8]; exact Nat.le_refl _, hth, (fun z => by cases z), ⟨_, upd_same, rfl⟩, fun p H2 st vp X2 => ?_⟩
      refine k (.ref p) H2 _ _ (a :: a :: O) .non _ _ _ _ (StepR.by (fun z => by cases z) (watch_yes el)) ?_ ((Stp.of_same s1).trans' st) ?_ ?_ rfl X2
      · show _ = if S.made + 1 = S.made then _ else _
        rw [if_neg (by omega)]
      · intro b hb
        rcases List.mem_cons.mp hb with rfl | hb
        · exact .inr na
        · rcases List.mem_cons.mp hb with rfl | hb
          · exact .inr na
          · exact .inl hb
      · exact ⟨vp, trivial⟩
end
end WK
namespace WK
open PySem PySem.Spec PyProof.Rows L2 He WB
section
variable {P : Program} {w : World} {K : PySem.W.Frag} {mg : Str → Option Value} {base : Heap}
theorem kitWN (T : Tx w K mg) : PySem.W.kitOne K (.type "NoneType") (.ref (ga K "Watch")) = some false := of_decide_eq_true (x_kitW_None T)
theorem ok_do_last (T : Tx w K mg) : DefOk ⟨P, w, K, mg, base⟩ 3 (ga K "do_last") ["heap", "name", "goal"] (spDo K 8) := by
  refine DefOk.mk' (f_do_last T) sc_do_last (fun _ _ _ _ _ _ us hl => match us, hl with | [_, _, _], _ => rfl) (fun vs H Q E h => ?_) (fun cdv A outer s H vs Q E hr h => ?_)
  · obtain ⟨h, S, live, O, dh, n, t, A', C', d, ht, hd, rfl, _⟩ := h
    cases d <;> first | rfl | cases ht
  · obtain ⟨h, S, live, O, dh, n, t, A', C', d, ht, hd, rfl, X, ok, lv, k⟩ := h
    have hu := hu_of hr
    refine ⟨_, (pss_cons (ps_set (i := 3) sc_do_last.nd rfl (Or.inl rfl) (pe_md (M := ⟨P, w, K, mg, base⟩) rfl hr (pv 0) (pa_cons (pv 1) pa_nil))) (pss_cons (ps_if (PW.pt (pw_or (pt_cmpR op_isN (pv 3) pe_non (nomark _)) (pw_or (pt_val (pe_callB call_isi (by rfl) (z_isinstance T) (by decide +kernel) (pa_cons (pv 3) (pa_cons (pe_glob (v := .ref (ga K "Watch")) rfl (g_Watch T) rfl) pa_nil)))) (pw_or1 (pt_val (pe_fld (pv 3) rfl)))))) (pss_one (ps_ret (pe_glob (v := .str "no") rfl (i_CANNOT T).choose_spec ⟨_, rfl⟩))) pss_nil) (pss_cons (ps_fld (pv 3) pe_bl rfl) (pss_cons (ps_fld (pv 3) pe_bl rfl) (pss_cons (ps_fld (pv 3) (pv 2) rfl) (pss_one (ps_ret pe_non))))))), ?_⟩
    cases d <;> try cases ht
    rename_i x g
    obtain ⟨hx, hg⟩ := hd
    obtain ⟨vs, e1, e2, e3, e4, e5, e6, e7⟩ := id X
    obtain ⟨ux, hux2, rux⟩ := KVR.val_some e3 (ok.val hx)
    have no : stepF S (.last x g) = (S, noT, none) → Q (.str "no") H := fun e =>
      k (.str "no") H S live O .non A' C' _ _ (StepR.by (fun z => by cases z) e) (same_live rfl) (Stp.refl _ _) (Frs.refl _ _) ⟨rfl, trivial⟩ rfl X
    refine ⟨_, rfl, h, _, dh, _, _, _, _, _, rfl, e1, (by kernel_rfl), c_Heap T, t_Heap_thing_of T, ok_Heap_thing_of T, by decide, _, rfl, h, S, live, O, dh, n, t, .non, A', C', x, _, rfl, X, ok.val hx, fun j e => ok.look_live lv hx e, ?_⟩
    refine ⟨_, rfl, rfl, _, rfl, ?_⟩
    rcases rux.cases with ⟨_, el⟩ | ⟨i, _, el⟩ | ⟨b, j, _, el, _⟩
    · rw [el]; exact no (last_no (by rw [el]; intro j z; cases z))
    · rw [el]; exact no (last_no (by rw [el]; intro j z; cases z))
    · rw [el]
      have hj := ok.look_live lv hx el
      obtain ⟨dx, pv, g1, g2⟩ := id (e5 j hj)
      refine ⟨_, rfl, _, _, _, _, _, rfl, .own _, .base (ty_ins T _ g1), kitW T _, _, rfl, ?_⟩
      cases hw : (S.th j).body.isWat with
      | true => exact no (last_no' el (by rw [hw]; rfl))
      | false =>
        refine ⟨_, rfl, A' j, _, dx, _, _, rfl, g1, b_cls T _, b_got_last T _, thF_got, _, rfl, ?_⟩
        cases hl : ((S.th j).last != .no) with
        | true => exact no (last_no' el (by rw [hl, Bool.or_true]))
        | false =>
          have hdue : ((S.th j).last == .due) = false := by
            cases q : (S.th j).last with
            | no => rfl
            | due => rw [q] at hl; cases hl
            | done => rw [q] at hl; cases hl
          refine ⟨_, rfl, A' j, _, dx, _, rfl, g1, b_cls T _, b_got_last T _, thF_len, ?_⟩
          rw [thF_put_got]
          refine ⟨_, rfl, A' j, _, dx, _, rfl, upd_same, b_cls T _, b_due T _, thF_len, ?_⟩
          rw [thF_put_due, upd_upd]
          refine ⟨_, rfl, _, rfl, A' j, _, dx, _, rfl, upd_same, b_cls T _, b_goal T _, thF_len, ?_⟩
          rw [thF_put_goal, upd_upd]
          have hx2 := ThAt.attr g1 g2 ⟨(S.th j).body, .due, g⟩ rfl
          have X2 := X.inst (x := ⟨(S.th j).body, .due, g⟩) hj rfl hx2
          exact k .non _ _ live O .non A' C' _ _ (StepR.by (fun z => by cases z) (last_yes el (by rw [hw, hl]; rfl))) (same_live rfl) (Stp.upd (.inl (e7.a j hj))) (Frs.refl _ _) ⟨rfl, trivial⟩ rfl X2
theorem reach_all {S : Sta} {live : List Nat} (lv : Liv S live) (k : Nat) : Reach S live k ↔ ReachA S k := rch_iff (fun k h => lv.kept k (ReachA.kept h)) k
theorem tell_isWat {S : Sta} {R : Nat → Prop} {j : Nat} : ((S.tellBy R).th j).body.isWat = (S.th j).body.isWat := by
  show (match (S.th j).body with | .wat s g => _ | _ => _ : Th).body.isWat = _
  cases e : (S.th j).body <;> first | rfl | (show (S.th j).body.isWat = _; rw [e])
theorem ok_do_ask (T : Tx w K mg) : DefOk ⟨P, w, K, mg, base⟩ 6 (ga K "do_ask") ["heap", "name", "other"] (spDo K 9) := by
  refine DefOk.mk' (f_do_ask T) sc_do_ask (fun _ _ _ _ _ _ us hl => match us, hl with | [_, _, _], _ => rfl) (fun vs H Q E h => ?_) (fun cdv A outer s H vs Q E hr h => ?_)
  · obtain ⟨h, S, live, O, dh, n, t, A', C', d, ht, hd, rfl, _⟩ := h
    cases d <;> first | rfl | cases ht
  · obtain ⟨h, S, live, O, dh, n, t, A', C', d, ht, hd, rfl, X, ok, lv, k⟩ := h
    have hu := hu_of hr
    refine ⟨_, (pss_cons (ps_set (i := 3) sc_do_ask.nd rfl (Or.inl rfl) (pe_md (M := ⟨P, w, K, mg, base⟩) rfl hr (pv 0) (pa_cons (pv 2) pa_nil))) (pss_cons (ps_if (pt_not (pt_val (pe_callB call_isi (by rfl) (z_isinstance T) (by decide +kernel) (pa_cons (pv 3) (pa_cons (pe_glob (v := .ref (ga K "Watch")) rfl (g_Watch T) rfl) pa_nil))))) (pss_one (ps_ret (pe_glob (v := .str "no") rfl (i_CANNOT T).choose_spec ⟨_, rfl⟩))) pss_nil) (pss_cons (ps_expr (pe_md0 (M := ⟨P, w, K, mg, base⟩) rfl hr (pv 0))) (pss_cons (ps_dput hu (pe_fld (pv 0) rfl) (pv 1) (pe_fld (pv 3) rfl) rfl) (pss_one (ps_ret (pe_fld (pv 3) rfl))))))), ?_⟩
    cases d <;> try cases ht
    rename_i x y
    obtain ⟨hx, hy⟩ := hd
    obtain ⟨vs, e1, e2, e3, e4, e5, e6, e7⟩ := id X
    obtain ⟨ux, hux2, rux⟩ := KVR.val_some e3 (ok.val hy)
    have no : stepF S (.ask x y) = (S, noT, none) → Q (.str "no") H := fun e =>
      k (.str "no") H S live O .non A' C' _ _ (StepR.by (fun z => by cases z) e) (same_live rfl) (Stp.refl _ _) (Frs.refl _ _) ⟨rfl, trivial⟩ rfl X
    refine ⟨_, rfl, h, _, dh, _, _, _, _, _, rfl, e1, (by kernel_rfl), c_Heap T, t_Heap_thing_of T, ok_Heap_thing_of T, by decide, _, rfl, h, S, live, O, dh, n, t, .non, A', C', y, _, rfl, X, ok.val hy, fun j e => ok.look_live lv hy e, ?_⟩
    rcases rux.cases with ⟨_, el⟩ | ⟨i, _, el⟩ | ⟨b, j, _, el, _⟩
    · rw [el]
      refine ⟨_, rfl, _, _, _, _, _, rfl, .own _, .base .non, kitWN T, _, rfl, ?_⟩
      exact no (ask_no (by rw [el]; intro j z; cases z))
    · rw [el]
      refine ⟨_, rfl, _, _, _, _, _, rfl, .own _, .base .non, kitWN T, _, rfl, ?_⟩
      exact no (ask_no (by rw [el]; intro j z; cases z))
    · rw [el]
      have hj := ok.look_live lv hy el
      obtain ⟨dx, pv, g1, g2⟩ := id (e5 j hj)
      refine ⟨_, rfl, _, _, _, _, _, rfl, .own _, .base (ty_ins T _ g1), kitW T _, _, rfl, ?_⟩
      cases hw : (S.th j).body.isWat with
      | false => exact no (ask_no' el (by rw [tell_isWat]; exact hw))
      | true =>
        refine ⟨_, rfl, h, _, dh, _, _, _, _, _, rfl, e1, (by kernel_rfl), c_Heap T, t_Heap_tell_watches T, ok_Heap_tell_watches T, by decide, ?_⟩
        refine ⟨h, S, live, O, dh, n, t, .non, A', C', rfl, X, by rw [ok.n8]; exact Nat.le_refl _, fun k hk => ok.wf k (lv.lt k hk), by have := lv.len; omega, lv.srt.imp fun h => Nat.ne_of_lt h, fun H1 ks hks st X1 => ?_⟩
        rw [Sta.tell_eq (fun k => (hks k).trans (reach_all lv k))] at X1
        obtain ⟨vs1, f1, f2, f3, f4, f5, f6, f7⟩ := id X1
        obtain ⟨d1, p1, q1, q2⟩ := id (f5 j hj)
        obtain ⟨s, b, eb⟩ : ∃ s b, ((S.tellBy (ReachA S)).th j).body = .wat s b := by
          cases q : ((S.tellBy (ReachA S)).th j).body with
          | wat s b => exact ⟨s, b, rfl⟩
          | dic r z => have := (tell_isWat (S := S) (R := ReachA S) (j := j)).trans hw; rw [q] at this; cases this
          | row z => have := (tell_isWat (S := S) (R := ReachA S) (j := j)).trans hw; rw [q] at this; cases this
        rw [eb] at q1 q2
        have q2' : VR H1 p1 (if b then .non else .ref s) := q2
        have ls : vs1.length < sizeLine := szl (by rw [KVR.length f3]; show S.names.length ≤ 1000; rw [ok.n8]; decide)
        have tp : Tup H1 (upd H1 n (.dK (putK vs1 (.inr x) p1))) := tup_upd (by rw [f2]; intro xs z; cases z; rfl)
        have nAn : A' j ≠ n := by rintro z; rw [z, f2] at q1; cases q1
        refine ⟨_, rfl, A' j, _, d1, _, _, rfl, q1, c_Watch T, n_Watch_sees T, thF_sees, _, rfl, h, _, dh, _, _, rfl, f1, c_Heap T, n_Heap_names T, heF_names, _, rfl, n, _, rfl, DPut.k (k := .inr x) f2 ls, ?_⟩
        refine ⟨_, rfl, A' j, _, d1, _, _, rfl, (by rw [upd_ne nAn]; exact q1), c_Watch T, n_Watch_sees T, thF_sees, ?_⟩
        exact k p1 _ _ live O .non A' C' _ _ (StepR.by (fun z => by cases z) (ask_yes el eb)) (same_live rfl) (st.trans' (Stp.upd (.inl f7.n))) (Frs.refl _ _) (TRF.of (VR.mono tp q2')) rfl (X1.name (KVR.put (VR.mono tp q2') (KVR.mono tp f3)))
end
end WK
/-! What stays right as deeds are done. -/
namespace WB
open PySem PySem.Spec PyProof.Rows L2 He
theorem Rch.sub {nx nx' : Nat → List Nat} {am : Nat → Prop} {st st' : List Nat} {k : Nat} (hn : ∀ j k, k ∈ nx' j → k ∈ nx j) (hs : ∀ k ∈ st', am k → Rch nx am st k) (r : Rch nx' am st' k) : Rch nx am st k := by
  induction r with
  | start h ha => exact hs _ h ha
  | step _ hk ha ih => exact .step ih (hn _ _ hk) ha
theorem putK_mem {kvs : List (Key × V)} {k : Key} {v : V} {p : Key × V} (h : p ∈ putK kvs k v) : p ∈ kvs ∨ p = (k, v) := by
  unfold putK at h
  split at h
  · obtain ⟨q, hq, e⟩ := List.mem_map.mp h
    by_cases g : q.1 = k
    · rw [if_pos g] at e; exact .inr (by rw [← e, g])
    · rw [if_neg g] at e; exact .inl (e ▸ hq)
  · rcases List.mem_append.mp h with h | h
    · exact .inl h
    · exact .inr (List.mem_singleton.mp h)
theorem putK_keys' {kvs : List (Key × V)} {k : Key} {v : V} (h : k ∈ kvs.map (·.1)) : (putK kvs k v).map (·.1) = kvs.map (·.1) := by
  unfold putK
  obtain ⟨q, hq, e⟩ := List.mem_map.mp h
  rw [if_pos (List.any_eq_true.mpr ⟨q, hq, decide_eq_true e⟩), List.map_map]
  refine List.map_congr_left fun p _ => ?_
  show (if p.1 = k then (p.1, v) else p).1 = p.1
  split <;> rfl
theorem mem_refs_iff {vs : List V} {j : Nat} : j ∈ refs vs ↔ V.ref j ∈ vs := by
  unfold refs
  rw [List.mem_filterMap]
  constructor
  · rintro ⟨v, hv, e⟩
    cases v <;> first | cases e | skip
    exact hv
  · exact fun h => ⟨_, h, rfl⟩
theorem VOk.mono {m m' : Nat} (h : m ≤ m') : {v : V} → VOk m v → VOk m' v
  | .ref k, q => Nat.lt_of_lt_of_le q h
  | .non, _ => trivial
  | .int _, _ => trivial
theorem nm_key {S : Sta} (o : Ok S) {x : Str} (hx : x ∈ nmS) : (.inr x : Key) ∈ S.names.map (·.1) := by
  rw [o.names]; exact List.mem_map_of_mem hx
theorem Ok.setName {S : Sta} {x : Str} {v : V} (o : Ok S) (hx : x ∈ nmS) (hv : VOk S.made v) : Ok (S.setName x v) :=
  ⟨(putK_keys' (nm_key o hx)).trans o.names, fun p hp => by
    rcases putK_mem hp with h | rfl
    · exact o.nv p h
    · exact hv, o.wf, o.bv, o.wv, o.gl⟩
theorem Ok.setTh {S : Sta} {j : Nat} {t : Th} (o : Ok S) (w : t.body.wf) (b : ∀ v ∈ t.body.vals, VOk S.made v) (hw : ∀ s g, t.body = .wat s g → s < S.made ∧ t.last = .no) (hg : t.goal = .non ∨ ∃ x ∈ nmS, t.goal = .str x) : Ok (S.setTh j t) := by
  have key : ∀ (P : Th → Prop), P t → ∀ k, P (S.th k) → P ((S.setTh j t).th k) := fun P pt k pk => by
    by_cases e : k = j
    · subst e; rw [setTh_eq]; exact pt
    · rw [setTh_ne e]; exact pk
  exact ⟨o.names, o.nv, fun k hk => key (fun x => x.body.wf) w k (o.wf k hk), fun k hk => key (fun x => ∀ v ∈ x.body.vals, VOk S.made v) b k (o.bv k hk),
    fun k hk => key (fun x => ∀ s g, x.body = .wat s g → s < S.made ∧ x.last = .no) hw k (o.wv k hk), fun k hk => key (fun x => x.goal = .non ∨ ∃ y ∈ nmS, x.goal = .str y) hg k (o.gl k hk)⟩
theorem Ok.add {S : Sta} {t : Th} (o : Ok S) (w : t.body.wf) (b : ∀ v ∈ t.body.vals, VOk (S.made + 1) v) (hw : ∀ s g, t.body = .wat s g → s < S.made + 1 ∧ t.last = .no) (hg : t.goal = .non ∨ ∃ x ∈ nmS, t.goal = .str x) : Ok (S.add t) := by
  have key : ∀ (P : Th → Prop), P t → ∀ k < S.made + 1, (k < S.made → P (S.th k)) → P ((S.add t).th k) := fun P pt k hk pk => by
    by_cases e : k = S.made
    · subst e; show P (if S.made = S.made then t else S.th S.made); rw [if_pos rfl]; exact pt
    · show P (if k = S.made then t else S.th k); rw [if_neg e]; exact pk (by omega)
  exact ⟨o.names, fun p hp => VOk.mono (Nat.le_succ _) (o.nv p hp), fun k hk => key (fun x => x.body.wf) w k hk (o.wf k), fun k hk => key (fun x => ∀ v ∈ x.body.vals, VOk (S.made + 1) v) b k hk fun h v hv => VOk.mono (Nat.le_succ _) (o.bv k h v hv),
    fun k hk => key (fun x => ∀ s g, x.body = .wat s g → s < S.made + 1 ∧ x.last = .no) hw k hk fun h s g e => ⟨Nat.lt_succ_of_lt (o.wv k h s g e).1, (o.wv k h s g e).2⟩, fun k hk => key (fun x => x.goal = .non ∨ ∃ y ∈ nmS, x.goal = .str y) hg k hk (o.gl k)⟩
/-- what telling leaves as it is -/
theorem tell_th {S : Sta} {R : Nat → Prop} (j : Nat) : ((S.tellBy R).th j = S.th j) ∨ ∃ s g g', (S.th j).body = .wat s g ∧ (S.tellBy R).th j = { S.th j with body := .wat s g' } := by
  show (match (S.th j).body with | .wat s g => _ | _ => _) = _ ∨ _
  cases e : (S.th j).body with
  | wat s g =>
    refine .inr ⟨s, g, g || !@decide (R s) (Classical.propDecidable _), rfl, ?_⟩
    show (match (S.th j).body with | .wat s g => _ | _ => _) = _
    rw [e]
  | _ => exact .inl rfl
theorem tell_last {S : Sta} {R : Nat → Prop} (j : Nat) : ((S.tellBy R).th j).last = (S.th j).last := by
  rcases tell_th (S := S) (R := R) j with e | ⟨s, g, g', _, e⟩ <;> rw [e]
theorem tell_goal {S : Sta} {R : Nat → Prop} (j : Nat) : ((S.tellBy R).th j).goal = (S.th j).goal := by
  rcases tell_th (S := S) (R := R) j with e | ⟨s, g, g', _, e⟩ <;> rw [e]
theorem tell_heldS {S : Sta} {R : Nat → Prop} : heldS (S.tellBy R) = heldS S := by
  funext j
  unfold heldS
  rcases tell_th (S := S) (R := R) j with e | ⟨s, g, g', e1, e⟩
  · rw [e]
  · rw [e, e1]; rfl
theorem tell_dues {S : Sta} {R : Nat → Prop} : duesA (S.tellBy R) = duesA S := by
  unfold duesA
  refine List.filter_congr fun k _ => ?_
  rw [tell_last]
theorem tell_kept {S : Sta} {R : Nat → Prop} : KeptA (S.tellBy R) = KeptA S := by
  unfold KeptA
  rw [tell_heldS, tell_dues]; rfl
theorem tell_reach {S : Sta} {R : Nat → Prop} : ReachA (S.tellBy R) = ReachA S := by
  unfold ReachA
  rw [tell_heldS]; rfl
theorem Ok.tellBy {S : Sta} {R : Nat → Prop} (o : Ok S) : Ok (S.tellBy R) := by
  refine ⟨o.names, o.nv, fun k hk => ?_, fun k hk => ?_, fun k hk => ?_, fun k hk => by rw [tell_goal]; exact o.gl k hk⟩
  · rcases tell_th (S := S) (R := R) k with e | ⟨s, g, g', e1, e⟩ <;> rw [e]
    · exact o.wf k hk
    · exact trivial
  · rcases tell_th (S := S) (R := R) k with e | ⟨s, g, g', e1, e⟩ <;> rw [e]
    · exact o.bv k hk
    · intro v hv; cases hv
  · rcases tell_th (S := S) (R := R) k with e | ⟨s, g, g', e1, e⟩ <;> rw [e]
    · exact o.wv k hk
    · intro s2 g2 e2
      cases e2
      exact o.wv k hk s g e1
theorem perform_th {S : Sta} {j : Nat} (k : Nat) : (performS S j).th k = if k = j then ⟨(S.th j).body, .done, (S.th j).goal⟩ else S.th k := by
  unfold performS
  split <;> rfl
theorem perform_made {S : Sta} {j : Nat} : (performS S j).made = S.made := by
  unfold performS
  split <;> rfl
theorem Ok.perform {S : Sta} {j : Nat} (o : Ok S) (hj : j < S.made) (hd : (S.th j).last = .due) : Ok (performS S j) := by
  have o1 : Ok (S.setTh j ⟨(S.th j).body, .done, (S.th j).goal⟩) := o.setTh (o.wf j hj) (o.bv j hj) (fun s g e => by rw [(o.wv j hj s g e).2] at hd; cases hd) (o.gl j hj)
  unfold performS
  rcases o.gl j hj with e | ⟨x, hx, e⟩ <;> rw [e] <;> rw [e] at o1
  · exact o1
  · exact o1.setName hx hj
theorem perform_held {S : Sta} {j : Nat} : heldS (performS S j) = heldS S := by
  funext k
  unfold heldS
  rw [perform_th]
  by_cases e : k = j
  · rw [if_pos e, e]
  · rw [if_neg e]
theorem perform_dues {S : Sta} {j k : Nat} (h : k ∈ duesA (performS S j)) : k ∈ duesA S ∧ k ≠ j := by
  unfold duesA at h ⊢
  rw [perform_made] at h
  obtain ⟨h1, h2⟩ := List.mem_filter.mp h
  rw [perform_th] at h2
  by_cases e : k = j
  · rw [if_pos e] at h2; cases h2
  · rw [if_neg e] at h2; exact ⟨List.mem_filter.mpr ⟨h1, h2⟩, e⟩
theorem nums_setName {S : Sta} {x : Str} {v : V} {k : Nat} (h : k ∈ numsS (S.setName x v)) : k ∈ numsS S ∨ v = .ref k := by
  unfold numsS at h
  obtain ⟨p, hp, e⟩ := List.mem_map.mp (mem_refs_iff.mp h)
  rcases putK_mem hp with q | q
  · exact .inl (mem_refs_iff.mpr (List.mem_map.mpr ⟨p, q, e⟩))
  · rw [q] at e; exact .inr e
theorem perform_nums {S : Sta} {j k : Nat} (h : k ∈ numsS (performS S j)) : k ∈ numsS S ∨ k = j := by
  unfold performS at h
  split at h
  · rcases nums_setName h with h | h
    · exact .inl h
    · cases h; exact .inr rfl
  · exact .inl h
theorem due_mem {S : Sta} {j : Nat} (hj : j < S.made) (hd : (S.th j).last = .due) : j ∈ duesA S := List.mem_filter.mpr ⟨List.mem_range.mpr hj, by rw [hd]; rfl⟩
theorem mem_due {S : Sta} {j : Nat} (h : j ∈ duesA S) : j < S.made ∧ (S.th j).last = .due := by
  obtain ⟨h1, h2⟩ := List.mem_filter.mp h
  refine ⟨List.mem_range.mp h1, ?_⟩
  cases q : (S.th j).last with
  | due => rfl
  | no => rw [q] at h2; cases h2
  | done => rw [q] at h2; cases h2
theorem perform_kept {S : Sta} {j k : Nat} (hj : j < S.made) (hd : (S.th j).last = .due) (h : KeptA (performS S j) k) : KeptA S k := by
  unfold KeptA at h
  rw [perform_held] at h
  refine Rch.sub (fun _ _ h => h) (fun i hi _ => ?_) h
  rcases List.mem_append.mp hi with hi | hi
  · rcases perform_nums hi with q | rfl
    · exact .start (List.mem_append_left _ q) trivial
    · exact .start (List.mem_append_right _ (due_mem hj hd)) trivial
  · exact .start (List.mem_append_right _ (perform_dues hi).1) trivial
theorem Liv.perform {S : Sta} {live : List Nat} {j : Nat} (l : Liv S live) (hj : j < S.made) (hd : (S.th j).last = .due) : Liv (performS S j) live :=
  ⟨fun k hk => by rw [perform_made]; exact l.lt k hk, l.srt, l.len, fun k h => l.kept k (perform_kept hj hd h)⟩
theorem Liv.tellBy {S : Sta} {live : List Nat} {R : Nat → Prop} (l : Liv S live) : Liv (S.tellBy R) live :=
  ⟨l.lt, l.srt, l.len, fun k h => l.kept k (by rwa [tell_kept] at h)⟩
theorem foldP_th : ∀ {js : List Nat} {S : Sta} (k : Nat), (js.foldl performS S).th k = if k ∈ js then ⟨(S.th k).body, .done, (S.th k).goal⟩ else S.th k
  | [], S, k => (if_neg List.not_mem_nil).symm
  | j :: r, S, k => by
    rw [List.foldl_cons, foldP_th k, perform_th]
    by_cases e : k = j
    · subst e
      rw [if_pos rfl, if_pos List.mem_cons_self]
      split <;> rfl
    · rw [if_neg e]
      by_cases m : k ∈ r
      · rw [if_pos m, if_pos (List.mem_cons_of_mem _ m)]
      · rw [if_neg m, if_neg (fun z => (List.mem_cons.mp z).elim e m)]
theorem foldP_made : ∀ {js : List Nat} {S : Sta}, (js.foldl performS S).made = S.made
  | [], _ => rfl
  | j :: r, S => by rw [List.foldl_cons, foldP_made, perform_made]
theorem foldP_ok : ∀ {js : List Nat} {S : Sta} {live : List Nat}, js.Nodup → (∀ j ∈ js, j < S.made ∧ (S.th j).last = .due) → Ok S → Liv S live → Ok (js.foldl performS S) ∧ Liv (js.foldl performS S) live
  | [], S, live, _, _, o, l => ⟨o, l⟩
  | j :: r, S, live, nd, h, o, l => by
    obtain ⟨n1, n2⟩ := List.nodup_cons.mp nd
    obtain ⟨h1, h2⟩ := h j List.mem_cons_self
    rw [List.foldl_cons]
    refine foldP_ok n2 (fun i hi => ?_) (o.perform h1 h2) (l.perform h1 h2)
    have q := h i (List.mem_cons_of_mem _ hi)
    rw [perform_made, perform_th, if_neg (by rintro rfl; exact n1 hi)]
    exact q
theorem foldP_dues {js : List Nat} {S : Sta} : duesA (js.foldl performS S) = (duesA S).filter fun k => !decide (k ∈ js) := by
  unfold duesA
  rw [foldP_made, List.filter_filter]
  refine List.filter_congr fun k _ => ?_
  rw [foldP_th]
  by_cases m : k ∈ js
  · rw [if_pos m, decide_eq_true m]; rfl
  · rw [if_neg m, decide_eq_false m]; simp
theorem srt_ext {a b : List Nat} (ha : a.Pairwise (· < ·)) (hb : b.Pairwise (· < ·)) (h : ∀ k, k ∈ a ↔ k ∈ b) : a = b := by
  have na : a.Nodup := ha.imp fun h => Nat.ne_of_lt h
  have nb : b.Nodup := hb.imp fun h => Nat.ne_of_lt h
  exact List.Perm.eq_of_pairwise (fun _ _ _ _ x y => absurd (Nat.lt_trans x y) (Nat.lt_irrefl _)) ha hb ((List.perm_ext_iff_of_nodup na nb).mpr h)
theorem dues_srt {S : Sta} : (duesA S).Pairwise (· < ·) := List.pairwise_lt_range.filter _
theorem filt_len {α : Type} (p : α → Bool) : ∀ l : List α, (l.filter p).length + (l.filter fun k => !p k).length = l.length
  | [] => rfl
  | a :: r => by
    have := filt_len p r
    rw [List.filter_cons, List.filter_cons]
    cases p a <;> simp <;> omega
theorem turn_len {S : Sta} : (turnS S).length + (duesA ((turnS S).foldl performS S)).length = (duesA S).length := by
  classical
  rw [foldP_dues]
  have e : (duesA S).filter (fun k => !decide (k ∈ turnS S)) = (duesA S).filter fun k => !(!decide (ReachA S k)) := by
    refine List.filter_congr fun k hk => ?_
    congr 1
    unfold turnS
    by_cases q : ReachA S k
    · rw [decide_eq_true q]
      refine decide_eq_false fun z => ?_
      have := (List.mem_filter.mp z).2
      simp [q] at this
    · rw [decide_eq_false q]
      exact decide_eq_true (List.mem_filter.mpr ⟨hk, by simp [q]⟩)
  rw [e]
  unfold turnS
  exact filt_len _ _
end WB
namespace WK
open PySem PySem.Spec PyProof.Rows L2 He WB
section
variable {P : Program} {w : World} {K : PySem.W.Frag} {mg : Str → Option Value} {base : Heap}
theorem HeapX.off {H : Hp} {h : Addr} {S : Sta} {live : List Nat} {O : List Addr} {dh n t : Addr} {ch : V} {A C : Nat → Addr} {l : Addr} {o : HO} (X : HeapX K H h S live O dh n t ch A C) (hl : l ∉ O) (tp : Tup H (upd H l o)) : HeapX K (upd H l o) h S live O dh n t ch A C := by
  obtain ⟨vs, e1, e2, e3, e4, e5, e6, e7⟩ := X
  have ne : ∀ {x : Addr}, x ∈ O → x ≠ l := fun hx e => hl (e ▸ hx)
  exact ⟨vs, by rw [upd_ne (ne e7.h)]; exact e1, by rw [upd_ne (ne e7.n)]; exact e2, KVR.mono tp e3, by rw [upd_ne (ne e7.t)]; exact e4, fun k hk => (e5 k hk).off tp (ne (e7.a k hk)) fun w => ne (e7.c k hk w), e6, ⟨e7.h, e7.n, e7.t, e7.a, e7.c, fun b hb => by
    obtain ⟨u, e, q⟩ := e7.tr b hb
    exact ⟨u, by rw [upd_ne (ne hb)]; exact e, q⟩⟩⟩
theorem dues_eq {S : Sta} {live : List Nat} (lv : Liv S live) : dues S live = duesA S := by
  refine srt_ext (lv.srt.filter _) dues_srt fun k => ?_
  constructor
  · intro h
    obtain ⟨h1, h2⟩ := List.mem_filter.mp h
    exact List.mem_filter.mpr ⟨List.mem_range.mpr (lv.lt k h1), h2⟩
  · intro h
    have := (List.mem_filter.mp h).2
    exact List.mem_filter.mpr ⟨lv.kept k (.start (List.mem_append_right _ h) trivial), this⟩
def SetW (K : PySem.W.Frag) (h l : Addr) (S : Sta) (live : List Nat) (O : List Addr) (dh n t : Addr) (A C : Nat → Addr) (H : Hp) (m : Nat) (σ : L2.St) (H' : Hp) : Prop :=
  ∃ S1 ks x2 x3 x4, σ = [some (.ref h), some (.ref l), x2, x3, x4] ∧ H' l = some (.lst (nV ks)) ∧ HeapX K H' h S1 live O dh n t .non A C ∧ Stp (l :: O) H H' ∧ WB.Ok S1 ∧ Liv S1 live ∧ S1.made = S.made ∧ m = (duesA S1).length ∧
    (∀ ks' S', Settle S1 ks' S' → Settle S (ks ++ ks') S') ∧ ks.length + (duesA S1).length ≤ live.length
open Classical in
theorem turn_take {S : Sta} {i j : Nat} {R : List Nat} (hR : ∀ k, k ∈ R ↔ ReachA S k) (h : (duesA S)[i]? = some j) :
    ((duesA S).take (i + 1)).filter (fun k => !decide (ReachA S k)) = ((duesA S).take i).filter (fun k => !decide (ReachA S k)) ++ (if (!decide (j ∈ R)) = true then [j] else []) := by
  rw [take_snoc h, List.filter_append]
  congr 1
  have e : decide (j ∈ R) = decide (ReachA S j) := by
    by_cases q : j ∈ R
    · rw [decide_eq_true q, decide_eq_true ((hR j).mp q)]
    · rw [decide_eq_false q, decide_eq_false fun z => q ((hR j).mpr z)]
  rw [e, List.filter_cons]; rfl
open Classical in
theorem ok_do_settle (T : Tx w K mg) : DefOk ⟨P, w, K, mg, base⟩ 6 (ga K "do_settle") ["heap"] (spDo K 10) := by
  refine DefOk.mk' (f_do_settle T) sc_do_settle (fun _ _ _ _ _ _ us hl => match us, hl with | [_], _ => rfl) (fun vs H Q E h => ?_) (fun cdv A outer s H vs Q E hr h => ?_)
  · obtain ⟨h, S, live, O, dh, n, t, A', C', d, ht, hd, rfl, _⟩ := h
    cases d <;> first | rfl | cases ht
  · obtain ⟨h, S, live, O, dh, n, t, A', C', d, ht, hd, rfl, X, ok, lv, k⟩ := h
    have hu := hu_of hr
    refine ⟨_, (pss_cons (ps_set (i := 1) sc_do_settle.nd rfl (Or.inl rfl) (pe_lst pa_nil)) (pss_one (ps_while PassesOwn.never (pt_val pe_bl) (pss_cons (ps_expr (pe_md0 (M := ⟨P, w, K, mg, base⟩) rfl hr (pv 0))) (pss_cons (ps_set (i := 2) sc_do_settle.nd rfl (Or.inr rfl) (pe_md0 (M := ⟨P, w, K, mg, base⟩) rfl hr (pv 0))) (pss_cons (ps_setLc (i := 4) (own := [("number", 3)]) (g := (gName 3)) rfl sc_do_settle.nd rfl rfl (sw_true rfl rfl rfl (by decide +kernel)) (pi_list (pe_md0 (M := ⟨P, w, K, mg, base⟩) rfl hr (pv 0))) (blkOk_by (own := [("number", 3)]) (N := ["heap", "told", "reach", "number", "turn"]) (sc := defScope s_do_settle) (by decide +kernel)) (fun _ _ _ _ _ => (pg_name (i := 3) sc_do_settle.nd rfl (Or.inl rfl))) (fun _ _ _ _ _ => by exact (pts_one (pt_cmp (pc_dnotin hu (pv 3) (pv 2))))) (fun _ _ _ _ _ => by exact (pv 3))) (pss_cons (ps_if (pt_not (pt_truth (pv 4) (by intro _; rfl))) (pss_one (ps_ret (pv 1))) pss_nil) (pss_cons (ps_for PassesOwn.never rfl (pi_list (pv 4)) (pg_name (i := 3) sc_do_settle.nd rfl (Or.inl rfl)) (pss_one (ps_expr (pe_md (M := ⟨P, w, K, mg, base⟩) rfl hr (pv 0) (pa_cons (pv 3) pa_nil))))) (pss_one (ps_expr (pe_bm PySem.F.plainAttrs_list PySem.F.slot_list_extend PySem.F.type_list_extend mt_extend (pv 1) (pa_cons (pv 4) pa_nil)))))))))))), ?_⟩
    cases d <;> try cases ht
    refine ⟨by show 0 ≤ sizeLine; decide, fun l hl => ?_⟩
    have s0 : Same H (upd H l (.lst [])) := same_new hl
    have lO : l ∉ O := fun z => by
      obtain ⟨_, _, _, _, _, _, _, e7⟩ := id X
      exact (e7.tr l z).ne hl
    refine ⟨SetW K h l S live O dh n t A' C' H,
      ⟨_, S, [], none, none, none, rfl, upd_same, X.same s0, Stp.upd (.inl List.mem_cons_self), ok, lv, rfl, rfl, fun _ _ z => z, ?_⟩, ?_⟩
    · rw [← dues_eq lv, List.length_nil, Nat.zero_add]; exact List.length_filter_le _ _
    · rintro m σ H1 ⟨S1, ks, x2, x3, x4, rfl, hl1, X1, st1, ok1, lv1, em, rfl, hS, hlen⟩
      obtain ⟨vs1, e1, e2, e3, e4, e5, e6, e7⟩ := id X1
      have l1 : live.length ≤ 1000 := by have := lv.len; omega
      refine ⟨_, rfl, ?_⟩
      refine iteT ⟨fun σ' H' => ∃ m', m' < (duesA S1).length ∧ SetW K h l S live O dh n t A' C' H m' σ' H', fun _ _ z => z, ?_⟩
      refine ⟨_, rfl, h, _, dh, _, _, _, _, _, rfl, e1, (by kernel_rfl), c_Heap T, t_Heap_tell_watches T, ok_Heap_tell_watches T, by decide, ?_⟩
      refine ⟨h, S1, live, O, dh, n, t, .non, A', C', rfl, X1, by rw [ok1.n8]; exact Nat.le_refl _, fun k hk => ok1.wf k (lv1.lt k hk), l1, lv1.srt.imp fun h => Nat.ne_of_lt h, fun H2 rs hrs st2 X2 => ?_⟩
      rw [Sta.tell_eq (fun k => (hrs k).trans (reach_all lv1 k))] at X2
      have ok2 := ok1.tellBy (R := ReachA S1)
      have lv2 := lv1.tellBy (R := ReachA S1)
      generalize eS2 : S1.tellBy (ReachA S1) = S2 at *
      have hl2 : H2 l = some (.lst (nV ks)) := st2 _ _ hl1 lO
      obtain ⟨vs2, f1, f2, f3, f4, f5, f6, f7⟩ := id X2
      refine ⟨_, rfl, h, _, dh, _, _, _, _, _, rfl, f1, (by kernel_rfl), c_Heap T, t_Heap_reach T, ok_Heap_reach T, by decide, h, S2, live, O, rfl, ⟨dh, n, t, .non, A', C', X2⟩, by rw [ok2.n8]; exact Nat.le_refl _, fun k hk => ok2.wf k (lv2.lt k hk), l1, fun R H3 qs s3 nR hR ndq hqs => ?_⟩
      have hqa : ∀ k, k ∈ qs ↔ ReachA S2 k := fun k => (hqs k).trans (reach_all lv2 k)
      refine ⟨_, rfl, h, _, dh, _, _, _, _, _, rfl, s3 _ _ f1, (by kernel_rfl), c_Heap T, t_Heap_due_ones T, ok_Heap_due_ones T, by decide, h, S2, live, O, rfl, ⟨dh, n, t, .non, A', C', X2.same s3⟩, lv2.srt, l1, fun dl H4 s4 ndl hdl => ?_⟩
      rw [dues_eq lv2] at hdl
      have s34 := s3.trans s4
      have X4 := X2.same s34
      refine ⟨_, rfl, ⟨_, SqL.of hdl⟩, fun D hD => ?_⟩
      have hD3 : H3 D = none := s4.free hD
      have ndD : D ∉ O := fun z => (f7.tr D z).ne (s3.free hD3)
      have nDl : D ≠ l := fun z => by rw [z] at hD3; rw [s3 _ _ hl2] at hD3; cases hD3
      refine lc_list (K := K) (a := dl) (xs := nV (duesA S2)) (fun i H' => Same H4 H' ∧ H' D = some (.lst (nV (((duesA S2).take i).filter fun k => !decide (ReachA S2 k)))))
        ⟨same_new hD, upd_same⟩ (fun i H' _ h => SqL.of (h.1 _ _ hdl)) ?_ ?_
      · rintro i x H5 hi ⟨s5, g5⟩
        unfold nV at hi
        rw [List.getElem?_map] at hi
        obtain ⟨j, hj, rfl⟩ := Option.map_eq_some_iff.mp hi
        refine ⟨rfl, ?_⟩
        refine ⟨_, rfl, _, rfl, R, _, rfl, DGet.k (k := .inl (j : Int)) ((s4.trans s5) _ _ hR), _, rfl, ?_⟩
        rw [val_keys (foundD_keys qs) j]
        have nx := turn_take hqa hj
        have lenb : (((duesA S2).take i).filter fun k => !decide (ReachA S2 k)).length ≤ 1000 := by
          refine Nat.le_trans (List.length_filter_le _ _) ?_
          rw [List.length_take, ← dues_eq lv2]
          have := List.length_filter_le (fun k => (S2.th k).last == .due) live
          show min _ (List.filter _ live).length ≤ _
          omega
        cases q : (!decide (j ∈ qs)) with
        | true =>
          rw [q, if_pos rfl] at nx
          refine iteT ⟨_, rfl, _, g5, szl (by unfold nV; rw [List.length_map]; exact lenb), same_mut s5 hD, ?_⟩
          rw [nx]
          show upd H5 D _ D = some (HO.lst (nV (_ ++ [j])))
          unfold nV
          rw [List.map_append]
          exact upd_same
        | false =>
          rw [q] at nx
          refine iteF ⟨s5, ?_⟩
          rw [nx, g5]
          show _ = some (HO.lst (nV (_ ++ [])))
          rw [List.append_nil]
      · rintro H5 ⟨s5, g5⟩
        rw [List.take_of_length_le (by unfold nV; rw [List.length_map]; exact Nat.le_refl _)] at g5
        have eT : ((duesA S2).filter fun k => !decide (ReachA S2 k)) = turnS S2 := rfl
        rw [eT] at g5
        have X5 := X4.same s5
        have s25 := s34.trans s5
        have hl5 := s25 _ _ hl2
        have st5 : Stp (l :: O) H H5 := (st1.trans' (st2.mono fun a ha => List.mem_cons_of_mem _ ha)).trans' (Stp.of_same s25)
        refine ⟨_, rfl, _, .inl ⟨_, SqL.of g5, rfl⟩, ?_⟩
        cases eq : turnS S2 with
        | nil =>
          have fin : Settle S (ks ++ []) S2 := hS [] S2 (by rw [← eS2]; exact Settle.done (by rw [eS2]; exact eq))
          rw [List.append_nil] at fin
          refine iteT ⟨_, rfl, ?_⟩
          refine k (.ref l) H5 S2 live O .non A' C' (.lst ks) none (StepR.settle fin) ?_ ?_ (Frs.refl _ _) ⟨⟨l, rfl, hl5⟩, l, rfl, hl, lO⟩ rfl X5
          · rw [if_pos (by rw [← eS2]; exact em)]
          · intro a o ea na
            refine st5 a o ea fun z => ?_
            rcases List.mem_cons.mp z with rfl | z
            · rw [hl] at ea; cases ea
            · exact na z
        | cons j0 r0 =>
          rw [eq] at g5
          refine iteF ?_
          rw [← eq] at g5
          have tnd : (turnS S2).Nodup := (dues_srt.filter _).imp fun h => Nat.ne_of_lt h
          have tdue : ∀ j ∈ turnS S2, j < S2.made ∧ (S2.th j).last = .due := fun j hj => mem_due (List.mem_filter.mp hj).1
          have tok : ∀ i, WB.Ok (((turnS S2).take i).foldl performS S2) ∧ Liv (((turnS S2).take i).foldl performS S2) live := fun i =>
            foldP_ok (tnd.sublist (List.take_sublist _ _)) (fun j hj => tdue j (List.mem_of_mem_take hj)) ok2 lv2
          have tlive : ∀ j ∈ turnS S2, j ∈ live := fun j hj => lv2.kept j (.start (List.mem_append_right _ (List.mem_filter.mp hj).1) trivial)
          have lturn : (turnS S2).length ≤ live.length := nodup_sub_len tnd tlive
          refine ⟨_, rfl, _, rfl, ⟨_, SqL.of g5⟩, ?_⟩
          refine for_list (K := K) (a := D) (xs := nV (turnS S2)) (fun i σ H' => ∃ x3, σ = [some (.ref h), some (.ref l), some (.ref R), x3, some (.ref D)] ∧ HeapX K H' h (((turnS S2).take i).foldl performS S2) live O dh n t .non A' C' ∧ Stp O H5 H')
            ⟨_, rfl, X5, Stp.refl _ _⟩ (fun i σ H' _ ⟨_, _, _, st⟩ => SqL.of (st _ _ g5 ndD)) ?_ ?_
          · rintro i x σ H6 hi ⟨x3', rfl, X6, st6⟩
            unfold nV at hi
            rw [List.getElem?_map] at hi
            obtain ⟨j, hj, rfl⟩ := Option.map_eq_some_iff.mp hi
            have hjt : j ∈ turnS S2 := List.mem_of_getElem? hj
            obtain ⟨ok6, lv6⟩ := tok i
            have hth : (((turnS S2).take i).foldl performS S2).th j = S2.th j := by rw [foldP_th, if_neg (not_taken tnd hj)]
            obtain ⟨vs6, h1, _⟩ := id X6
            refine ⟨_, rfl, h, _, dh, _, _, _, _, _, rfl, h1, (by kernel_rfl), c_Heap T, t_Heap_perform_last T, ok_Heap_perform_last T, by decide, _, rfl, ?_⟩
            refine ⟨h, _, live, O, dh, n, t, .non, A', C', j, rfl, X6, tlive j hjt, by rw [ok6.n8]; exact Nat.le_refl _, by rw [hth]; exact (tdue j hjt).2, ?_, fun H7 st7 X7 => ?_⟩
            · rcases ok6.gl j (by rw [foldP_made]; exact (tdue j hjt).1) with q | ⟨y, _, q⟩
              · exact .inl q
              · exact .inr ⟨y, q⟩
            · refine ⟨_, rfl, ?_, st6.trans' st7⟩
              rw [take_snoc hj, List.foldl_append]
              exact X7
          · rintro σ H6 ⟨x3', rfl, X6, st6⟩
            rw [List.take_of_length_le (by unfold nV; rw [List.length_map]; exact Nat.le_refl _)] at X6
            obtain ⟨ok6, lv6⟩ := tok (turnS S2).length
            rw [List.take_length] at ok6 lv6
            have hl6 := st6 _ _ hl5 lO
            have hD6 := st6 _ _ g5 ndD
            have tl := turn_len (S := S2)
            have ed : (duesA S2).length = (duesA S1).length := by rw [← eS2, tell_dues]
            refine ⟨_, rfl, .inl ⟨rfl, _, SqL.of hl6⟩, _, rfl, l, D, nV ks, nV (turnS S2), rfl, rfl, hl6, hD6, Nat.le_trans (show (nV ks).length + (nV (turnS S2)).length ≤ 20000 by unfold nV; rw [List.length_map, List.length_map]; omega) (by decide), ?_⟩
            have pos : 0 < (turnS S2).length := by rw [eq]; exact Nat.succ_pos _
            refine ⟨_, ?_, (turnS S2).foldl performS S2, ks ++ turnS S2, _, _, _, rfl, ?_, HeapX.off X6 lO (tup_upd (by rw [hl6]; intro xs z; cases z; rfl)), ?_, ok6, lv6, ?_, rfl, ?_, ?_⟩
            · omega
            · unfold nV; rw [List.map_append]; exact upd_same
            · exact (st5.trans' (st6.mono fun a ha => List.mem_cons_of_mem _ ha)).trans' (Stp.upd (.inl List.mem_cons_self))
            · rw [foldP_made, ← eS2]; exact em
            · intro ks' S' hs'
              rw [List.append_assoc]
              refine hS _ _ ?_
              subst eS2
              exact Settle.turn (by rw [eq]; intro z; cases z) hs'
            · rw [List.length_append]; omega
end
end WK
/-! word, *parts = a tuple. -/
namespace WB
open PySem PySem.Spec PySem.Calls PyProof.Rows PySem.W L2 He
section
variable {prog : Program} {w : World} {A : Around} {E : Value → Shared → Prop} {s : Shared}
theorem star_raw {l : Addr} {u0 : Value} {us : List Value} {Q : List Value → Shared → Prop} (ht : IsTup s.heap l (u0 :: us).toArray) (hh : A.handled = none) (hz : us.length ≤ 1000)
    (h : ∀ (h' : Heap) (tk : Nat), (∀ b o, s.heap.get? b = some o → h'.get? b = some o) → Q [u0, .ref h'.objs.size] { s with heap := h'.push { cls := .type "list", data := .seq us.toArray }, toks := tk }) :
    wpAny (model prog w) A (unpackItems (.ref l) 2 (some 1)) Q E s := by
  have hll : l < s.heap.objs.size := by obtain ⟨o, ho, _⟩ := ht; exact Heap.lt_size ho
  have hlt : l ≠ s.heap.objs.size := Nat.ne_of_lt hll
  have hsz : (u0 :: us).toArray.size = us.length + 1 := by simp
  unfold unpackItems notIterableAtAll
  refine wpAny_bind (wpAny_bind (wpAny_specialOf ht.typeIs slot_tuple_iter.lookup (wpAny_pure ?_)))
  rw [if_neg (by decide)]
  refine wpAny_bind (wpAny_holding (iter_tuple ht ?_))
  refine wpAny_bind (wpAny_holding (draw_tuple hlt 1 0 _ _ ⟨_, Heap.get?_push_size _ rfl, rfl, rfl⟩ (ht.push _) (by omega) fun h1 it1 s1 => ?_))
  have ht1 : IsTup h1 l (u0 :: us).toArray := (ht.push _).extBut s1.extBut hlt
  have k1 : ∀ b o, s.heap.get? b = some o → h1.get? b = some o := fun b o e => s1.extBut b o (Nat.ne_of_lt (Heap.lt_size e)) (Heap.get?_push_of_some _ e)
  rw [Nat.zero_add] at it1
  obtain ⟨oi, hoi, _⟩ := id it1
  obtain ⟨ol, hol, _⟩ := id ht1
  show wpAny _ _ (if ([u0] : List Value).length < 1 then _ else _) _ _ _
  rw [if_neg (by show ¬ 1 < 1; omega)]
  refine wpAny_bind (wpAny_holding (kun_collect (s := { s with heap := h1 }) (T := "tuple_iterator") (.inr (.inr (.inr rfl))) (Walks.tuple (A := A.in1) hh s.heap.objs.size l hlt (u0 :: us).toArray) (fun j u st => st.1.typeIs) (k := 1) (by omega) ⟨it1, ht1⟩ (Heap.lt_size hoi) (Heap.lt_size hol) (fun h2 tk k2 => ?_) (by rw [sizeLine_eq]; omega)))
  show wpAny _ _ (if us.length < 0 then _ else _) _ _ _
  rw [if_neg (by omega)]
  show wpAny _ _ (newList (us.take us.length) >>= fun d => pure ([u0] ++ [d] ++ us.drop us.length)) _ _ _
  rw [List.take_length, List.drop_length]
  have k : ∀ b o, s.heap.get? b = some o → h2.get? b = some o := fun b o e => k2 b o (Nat.ne_of_lt (Heap.lt_size e)) (k1 b o e)
  exact wpAny_bind (wpAny_newList (wpAny_pure (h h2 tk k)) (by rw [sizeLine_eq]; omega))
end
/-- a, *b = a tuple: b a new list -/
def gStar1 (K : PySem.W.Frag) (t : TGs) : TG := fun v σ H Q => ∃ a x xs, v = .ref a ∧ SqT K H a (x :: xs) ∧ xs.length ≤ 1000 ∧ ∀ D, H D = none → t [x, .ref D] σ (upd H D (.lst xs)) Q
theorem pg_star {X : Cx} {pos : Pos} {e1 e2 : Expr} {sp : Pos} {k : Nat} {t : TGs} (hc : X.calm = true) (h : PGs X [e1, e2] t) (hn : (assignEach [e1, .Starred e2 sp] X.env).length = 2 := by rfl) (hst : (assignEach [e1, .Starred e2 sp] X.env).findIdx? (·.1) = some 1 := by rfl)
    (hm : (assignEach [e1, .Starred e2 sp] X.env).map (·.2) = (assignEach [e1, e2] X.env).map (·.2) := by rfl) : PG X (.Tuple [e1, .Starred e2 sp] k pos) (gStar1 X.K t) := by
  refine ⟨fun pins s σ H v u Q I r hw => ?_⟩
  obtain ⟨a, x, xs, e1', hq, hl, hw⟩ := hw
  subst e1'
  cases r
  obtain ⟨its, rv, ht, hz⟩ := I.tuple hq
  cases rv with
  | cons r0 rr =>
    rename_i u0 us
    have lu := rr.length
    rw [assign_Tuple]
    refine wpAny_bind (wpAny_standAt ?_)
    unfold unpack
    rw [hn, hst]
    refine wpAny_bind (wpAny_holding (star_raw ht (I.ok.hd hc) (by omega) fun h' tk kp => ?_))
    have I0 : Inv X pins σ H { s with heap := h', toks := tk } := I.kept kp
    have hf : H h'.objs.size = none := I0.hok.fresh (Nat.le_refl _)
    rw [hm]
    have I1 : Inv X pins σ (upd H h'.objs.size (.lst xs)) { s with heap := h'.push { cls := .type "list", data := .seq us.toArray }, toks := tk } :=
      I0.laid (t' := tk) (fun b u e => Heap.get?_push_of_some _ e) (Nat.le_refl _) ⟨by rw [sizeLine_eq]; omega, us, 0, rr, Heap.get?_push_size _ rfl⟩
    exact h.run pins _ σ _ [x, .ref h'.objs.size] [u0, .ref h'.objs.size] Q I1 (.cons r0 (.cons rfl .nil)) (hw _ hf)
end WB
/-! A call of a local that holds a def, with a starred argument. -/
namespace WB
open PySem PySem.Spec PyProof.Rows L2 He
section
variable {X : Cx} {M : C5} {k0 i : Nat} {x : Str} {p pos : Pos} {e : Expr} {es : List Expr} {t : TA}
def tCL (M : C5) (k0 i : Nat) (t : TA) : TE := fun σ H Q => ∃ (f : Addr) (ps : List Str) (sp : Sp) (k : Nat), σ[i]? = some (some (.ref f)) ∧ DefOk M k f ps sp ∧ k ≤ k0 ∧ t σ H fun vs H1 => sp vs H1 Q E0
theorem pe_clS (hM : five X = M) (hr : Room k0 X.A) (hN : X.N[i]? = some x) (hv : Vis X.env.scope x) (ha : PA X (e :: es) t) (hdb : (x == ("__debug__" : Str)) = false := by decide) (hcd : (x == ("__classdict__" : Str)) = false := by decide)
    (he : starEach (e :: es) X.env = (false, eval e X.env) :: starEach es X.env := by rfl) (hst : (backTo pos (starEach es X.env)).any (·.1) = true := by rfl) : PE X (.Call (.Name x p) (e :: es) [] pos) (tCL M k0 i t) := by
  subst hM
  refine ⟨fun pins s σ H Q I ⟨f, ps, sp, k, hs, D, hk, h⟩ => ?_⟩
  obtain ⟨fd, F, b⟩ := D.ex
  refine wpAny_Call_Name_kw (thn ((pe_var (pos := p) hN hv hdb hcd).run pins s σ H (fun v H1 => v = .ref f ∧ H1 = H) I ⟨.ref f, hs, rfl, rfl⟩) fun u s1 ⟨v, H1, I1, r1, q1⟩ => ?_)
  obtain ⟨rfl, rfl⟩ := q1
  cases r1
  refine PySem.W.callWith_S2 (h₀ := X.base) I.ok.mod.kin D.kp (thn (ha.run pos pins s1 σ _ _ I1 h) fun us s2 ⟨vs, H2, I2, r, q⟩ => ⟨I2.kIn, ?_⟩) he hst
  exact run_fn (dvs := []) F (hr.mono hk) b .nil pass0 I2 r (by rw [List.append_nil]; exact q)
end
end WB
namespace WK
open PySem PySem.Spec PyProof.Rows L2 He WB
section
variable {P : Program} {w : World} {K : PySem.W.Frag} {mg : Str → Option Value} {base : Heap}
def spAct (K : PySem.W.Frag) : Sp := fun vs H Q _ => ∃ (h dp : Addr) (S : Sta) (live : List Nat) (O : List Addr) (dh n t : Addr) (ch : V) (A C : Nat → Addr) (d : Deed), d.ok ∧ vs = [.ref h, .ref dp] ∧ SqT K H dp (.str d.word :: d.args) ∧ HeapX K H h S live O dh n t ch A C ∧ WB.Ok S ∧ Liv S live ∧
  ∀ r H' S' live' O' ch' A' C' told chg, StepR S d S' told chg → live' = (if S'.made = S.made then live else live ++ [S.made]) → Stp O H H' → Frs O O' H → TRF H O' H' r told → ChR H' ch' chg → HeapX K H' h S' live' O' dh n t ch' A' C' → Q r H'
theorem kd_acts (T : Tx w K mg) {x : Str} {f : Addr} (h : PySem.W.nsIn K (ga K "ACTS") x = some (some (.ref f))) : KDct K w (ga K "ACTS") x (.ref f) :=
  let D := (k_ACTS T).choose_spec.choose_spec
  ⟨_, _, _, D.at_, D.lit, h, rfl⟩
theorem acts_at (T : Tx w K mg) (d : Deed) : ∃ f, KDct K w (ga K "ACTS") d.word (.ref f) ∧ ∃ ps k, DefOk ⟨P, w, K, mg, base⟩ k f ps (spDo K d.tag) ∧ k ≤ 6 := by
  cases d with
  | make x y => exact ⟨_, kd_acts T (eqO_ok (x_ACTS_make T)), _, _, ok_do_make T, by decide⟩
  | num x y => exact ⟨_, kd_acts T (eqO_ok (x_ACTS_num T)), _, _, ok_do_num T, by decide⟩
  | copy x y => exact ⟨_, kd_acts T (eqO_ok (x_ACTS_copy T)), _, _, ok_do_copy T, by decide⟩
  | drop x => exact ⟨_, kd_acts T (eqO_ok (x_ACTS_drop T)), _, _, ok_do_drop T, by decide⟩
  | put x y z => exact ⟨_, kd_acts T (eqO_ok (x_ACTS_put T)), _, _, ok_do_put T, by decide⟩
  | take x y z => exact ⟨_, kd_acts T (eqO_ok (x_ACTS_take T)), _, _, ok_do_take T, by decide⟩
  | cut x z => exact ⟨_, kd_acts T (eqO_ok (x_ACTS_cut T)), _, _, ok_do_cut T, by decide⟩
  | watch x y => exact ⟨_, kd_acts T (eqO_ok (x_ACTS_watch T)), _, _, ok_do_watch T, by decide⟩
  | last x y => exact ⟨_, kd_acts T (eqO_ok (x_ACTS_last T)), _, _, ok_do_last T, by decide⟩
  | ask x y => exact ⟨_, kd_acts T (eqO_ok (x_ACTS_ask T)), _, _, ok_do_ask T, by decide⟩
  | settle => exact ⟨_, kd_acts T (eqO_ok (x_ACTS_settle T)), _, _, ok_do_settle T, by decide⟩
  | say x => exact ⟨_, kd_acts T (eqO_ok (x_ACTS_say T)), _, _, ok_do_say T, by decide⟩
theorem ok_act (T : Tx w K mg) : DefOk ⟨P, w, K, mg, base⟩ 7 (ga K "act") ["heap", "deed"] (spAct K) := by
  refine DefOk.mk' (f_act T) sc_act (fun _ _ _ _ _ _ us hl => match us, hl with | [_, _], _ => rfl) (fun vs H Q E h => ?_) (fun cdv A outer s H vs Q E hr h => ?_)
  · obtain ⟨h, dp, S, live, O, dh, n, t, ch, A', C', d, hd, rfl, _⟩ := h
    rfl
  · obtain ⟨h, dp, S, live, O, dh, n, t, ch, A', C', d, hd, rfl, hdp, X, ok, lv, k⟩ := h
    have hu := hu_of hr
    refine ⟨_, (pss_cons (ps_asg (pv 1) (pg_star rfl (pgs_cons (pg_name (i := 2) sc_act.nd rfl (Or.inl rfl)) (pgs_cons (pg_name (i := 3) sc_act.nd rfl (Or.inl rfl)) pgs_nil)))) (pss_cons (ps_fld (pv 0) pe_non rfl) (pss_cons (ps_set (i := 4) sc_act.nd rfl (Or.inl rfl) (pe_ix ix_kdict (pe_glob (v := .ref (ga K "ACTS")) rfl (g_ACTS T) rfl) (pv 2) (fun _ _ => rfl))) (pss_one (ps_ret (pe_clS (M := ⟨P, w, K, mg, base⟩) (i := 4) rfl hr rfl (Or.inl rfl) (pa_cons (pv 0) (StX.pa_star (pv 3) pa_nil)))))))), ?_⟩
    obtain ⟨vs, e1, e2, e3, e4, e5, e6, e7⟩ := id X
    refine ⟨_, rfl, dp, _, _, rfl, hdp, ?_, fun D hD => ?_⟩
    · cases d <;> (show List.length _ ≤ 1000) <;> simp [Deed.args]
    have s1 : Same H (upd H D (.lst d.args)) := same_new hD
    refine ⟨_, _, rfl, _, _, rfl, rfl, ?_⟩
    refine ⟨_, rfl, h, _, dh, _, rfl, s1 _ _ e1, c_Heap T, n_Heap_change T, heF_len, ?_⟩
    rw [heF_put_change]
    have X2 := (X.same s1).change (v := .non)
    obtain ⟨f, hf, ps, kk, Df, hk⟩ := acts_at (P := P) (base := base) T d
    have nhD : D ≠ h := (ne_of_none e1 hD).symm
    refine ⟨_, rfl, _, _, _, rfl, rfl, hf, ?_⟩
    refine ⟨f, ps, _, kk, rfl, Df, hk, _, rfl, _, rfl, D, d.args, rfl, .inr (SqL.of (by rw [upd_ne nhD]; exact upd_same)), ?_⟩
    show spDo K d.tag (.ref h :: (d.args ++ [])) _ _ E0
    rw [List.append_nil]
    refine ⟨h, S, live, O, dh, n, t, A', C', d, rfl, hd, rfl, X2, ok, lv, fun r H' S' live' O' ch' A2 C2 told chg st hl sp fr tr cr X3 => ?_⟩
    exact k r H' S' live' O' ch' A2 C2 told chg st hl (((Stp.of_same s1).trans' (Stp.upd (.inl e7.h))).trans' sp) (fun a ha => (fr a ha).imp_right fun z => by
      cases q : H a with
      | none => rfl
      | some o => exact absurd z (upd_some (by rw [s1 _ _ q]; intro y; cases y))) (tr.backF fun a z => by
      cases q : H a with
      | none => rfl
      | some o => exact absurd z (upd_some (by rw [s1 _ _ q]; intro y; cases y))) cr X3
end
end WK
/-! zip of a tuple and a list of one length. -/
namespace WB
open PySem PySem.Spec PyProof.Rows L2 He
/-- a tuple at a, a list at b, gone through together, each turn in a new pair -/
def ItzM (K : PySem.W.Frag) (a b : Addr) : It :=
  ⟨fun i H => ∃ (xs ys : List V) (x y : V), SqT K H a xs ∧ SqL K H b ys ∧ xs[i]? = some x ∧ ys[i]? = some y,
    fun i H v H' => ∃ T x y, v = .ref T ∧ H T = none ∧ H' = upd H T (.tup [x, y]) ∧ (∀ xs, SqT K H a xs → xs[i]? = some x) ∧ ∀ ys, SqL K H b ys → ys[i]? = some y,
    fun i H => ∃ xs ys : List V, SqT K H a xs ∧ SqL K H b ys ∧ i = xs.length ∧ i = ys.length⟩
theorem sep_mix {a b z TI TO i1 i2 : Addr} (D : ZipApart z TI TO i1 i2 a b) : ZipSep2 z TI TO i1 i2 [i1, a] [i2, b] where
  TIz := D.TIz
  TOz := D.TOz
  TITO := D.TITO
  TIi1 := D.TIi1
  mem1 := List.mem_cons_self
  zf1 := fun h => by simp only [List.mem_cons, List.not_mem_nil, or_false] at h; exact h.elim D.i1z.symm D.l1z.symm
  Tf1 := fun h => by simp only [List.mem_cons, List.not_mem_nil, or_false] at h; exact h.elim D.TOi1 D.l1TO.symm
  TIi2 := D.TIi2
  mem2 := List.mem_cons_self
  zf2 := fun h => by simp only [List.mem_cons, List.not_mem_nil, or_false] at h; exact h.elim D.i2z.symm D.l2z.symm
  Tf2 := fun h => by simp only [List.mem_cons, List.not_mem_nil, or_false] at h; exact h.elim D.TOi2 D.l2TO.symm
  sep1_2 := fun h => by simp only [List.mem_cons, List.not_mem_nil, or_false] at h; exact h.elim D.i12 D.l2i1.symm
  sep2_1 := fun h => by simp only [List.mem_cons, List.not_mem_nil, or_false] at h; exact h.elim D.i12.symm D.l1i2.symm
theorem mem5 {z TI TO i1 i2 c : Addr} {p : Addr → Prop} (h : c ∈ [z, TI, TO, i1, i2]) (h1 : p z) (h2 : p TI) (h3 : p TO) (h4 : p i1) (h5 : p i2) : p c := by
  simp only [List.mem_cons, List.not_mem_nil, or_false] at h
  rcases h with rfl | rfl | rfl | rfl | rfl <;> assumption
theorem turn_mix {P : Program} {w : World} {K : PySem.W.Frag} {elts : List Expr} {kk : Nat} {tpos : Pos} {a b z TI TO i1 i2 : Addr} (D : ZipApart z TI TO i1 i2 a b) :
    Turn P w K (.Tuple elts kk tpos) (ItzM K a b) [z, TI, TO, i1, i2] z (fun i h => IsZip h z TI TO .none ∧ IsPair h TI (.ref i1) (.ref i2) ∧ (∃ x y, IsPair h TO x y) ∧ h.IsTupleIter i1 a i ∧ h.IsListIter i2 b i) where
  mem := List.mem_cons_self
  obj := fun i h ⟨hz, hI, ⟨x, y, hO⟩, ⟨o1, p1, _, q1⟩, ⟨o2, p2, _, q2⟩⟩ c hc =>
    mem5 (p := fun c => ∃ o, h.get? c = some o ∧ ∀ v, o.data ≠ .cell v) hc ⟨_, hz, fun v q => by cases q⟩ ⟨_, hI, fun v q => by cases q⟩ ⟨_, hO, fun v q => by cases q⟩ ⟨o1, p1, fun v q => by rw [q1] at q; cases q⟩ ⟨o2, p2, fun v q => by rw [q2] at q; cases q⟩
  keep := fun i h h' ⟨hz, hI, ⟨x, y, hO⟩, t1, t2⟩ k =>
    ⟨k z (by simp) _ hz, k TI (by simp) _ hI, ⟨x, y, k TO (by simp) _ hO⟩, t1.at fun o q => k i1 (by simp) o q, t2.at fun o q => k i2 (by simp) o q⟩
  item := by
    rintro X rfl rfl rfl hc i pins s σ H E I hf ⟨hz, hI, ⟨x0, y0, hO⟩, t1, t2⟩ ⟨xs, ys, x, y, hx, hy, gx, gy⟩
    obtain ⟨us, ru, pu, _⟩ := I.tuple hx
    obtain ⟨vs, rv, pv, _⟩ := I.list hy
    obtain ⟨u, hu, rx⟩ := ru.get gx
    obtain ⟨v, hv, ry⟩ := rv.get gy
    have hh : X.A.in1.handled = none := I.ok.hd hc
    have lz : z < s.heap.objs.size := Heap.lt_size hz
    refine wpAny_pyNext_zipD2_item (sep_mix D) (Draws.tuple hh i1 a D.l1i1 us.toArray) (Draws.list hh i2 b D.l2i2 vs.toArray) hz hI hO ⟨t1, pu⟩ ⟨t2, pv.isList⟩
      (by rw [List.size_toArray]; exact (List.getElem?_eq_some_iff.mp hu).1) (by rw [List.size_toArray]; exact (List.getElem?_eq_some_iff.mp hv).1) fun u' v' h' tk e1 e2 z' O' s1 s2 hT hsz hk => ?_
    have e1' : u' = u := by simpa [hu, eq_comm] using e1
    have e2' : v' = v := by simpa [hv, eq_comm] using e2
    subst e1' e2'
    refine ⟨_, rfl, wpAny_letOwnedTupleGo_zip (s := { s with heap := h', toks := tk }) z' fun h2 z2 sb => ?_⟩
    have hT2 : h2.get? s.heap.objs.size = some { cls := .type "tuple", data := .seq #[u', v'] } := (sb.2 _ (Nat.ne_of_gt lz)).trans hT
    have new : ObjOk X.prog X.w (upd H s.heap.objs.size (.tup [x, y])) h2 s.heap.objs.size (.tup [x, y]) :=
      ⟨by show 2 ≤ sizeLine; decide, [u', v'], .cons rx (.cons ry .nil), ⟨_, hT2, rfl, _, rfl⟩⟩
    have I1 : Inv X pins σ (upd H s.heap.objs.size (.tup [x, y])) { s with heap := h2, toks := tk } :=
      I.turnedNew (t' := tk) (ch := [z, TI, TO, i1, i2]) (fun c o hb q => (sb.2 c fun e => hb (by simp [e])).trans (hk c o (fun e => hb (by simp [e])) (fun e => hb (by simp [e])) (fun e => hb (by simp [e])) (fun e => hb (by simp [e])) q)) hf (Nat.le_refl _) new
    refine ⟨.ref s.heap.objs.size, _, I1, rfl, ⟨_, x, y, rfl, I.hok.fresh (Nat.le_refl _), rfl, fun l hl => by rw [I.tuple_inj hl hx]; exact gx, fun l hl => by rw [I.list_inj hl hy]; exact gy⟩,
      ⟨z2, (sb.2 _ D.TIz).trans (hk _ _ D.TIz D.TITO D.TIi1 D.TIi2 hI), ⟨u', v', (sb.2 _ D.TOz).trans O'⟩, s1.1.at fun o q => (sb.2 _ D.i1z).trans q, s2.1.at fun o q => (sb.2 _ D.i2z).trans q⟩, fun c hcm => ?_⟩
    have lt : c < s.heap.objs.size := by
      obtain ⟨_, p1, _⟩ := t1
      obtain ⟨_, p2, _⟩ := t2
      exact mem5 (p := fun c => c < s.heap.objs.size) hcm lz (Heap.lt_size hI) (Heap.lt_size hO) (Heap.lt_size p1) (Heap.lt_size p2)
    rw [upd_ne (Nat.ne_of_lt lt)]
    exact (hf c hcm).1
  done := by
    rintro X rfl rfl rfl hc i pins s σ H E I hf ⟨hz, hI, ⟨x0, y0, hO⟩, t1, t2⟩ ⟨xs, ys, hx, hy, l1, l2⟩
    obtain ⟨us, ru, pu, _⟩ := I.tuple hx
    obtain ⟨vs, rv, pv, _⟩ := I.list hy
    have hh : X.A.in1.handled = none := I.ok.hd hc
    have m1 := ru.length
    have m2 := rv.length
    have n1 : i = us.toArray.size := by rw [List.size_toArray]; omega
    have n2 : i = vs.toArray.size := by rw [List.size_toArray]; omega
    exact wpAny_pyNext_zipD2_end (sep_mix D) (Draws.tuple hh i1 a D.l1i1 us.toArray) (Draws.list hh i2 b D.l2i2 vs.toArray) hz hI hO ⟨t1, pu⟩ ⟨t2, pv.isList⟩ (Nat.le_of_eq n1) (Nat.le_of_eq n2) (.inl n1) fun h' tk hk => ⟨rfl, I.turnedL (t' := tk) (ch := [z, TI, TO, i1, i2]) (fun c o hb q =>
      hk c o (fun e => hb (by simp [e])) (fun e => hb (by simp [e])) (fun e => hb (by simp [e])) (fun e => hb (by simp [e])) q) hf⟩
  self := fun A i s Q E st h => wpAny_pyIter_zip st.1 h
def iZipM (K : PySem.W.Frag) (ta : TA) : TI := fun σ H R => ta σ H fun vs H1 => ∃ a b xs ys, vs = [.ref a, .ref b] ∧ SqT K H1 a xs ∧ SqL K H1 b ys ∧ R (ItzM K a b) H1
theorem pi_zipM {X : Cx} {e e2 : Expr} {ta : TA} {p pos tpos : Pos} {elts : List Expr} {kk : Nat} (hg : Gl X "zip") (hm : X.mg "zip" = none) (ha : PA X [e, e2] ta)
    (hs : starEach [e, e2] X.env = (false, eval e X.env) :: starEach [e2] X.env := by rfl) (hpl : (backTo pos (starEach [e2] X.env)).any (·.1) = false := by rfl) :
    PI X (.Tuple elts kk tpos) (.Call (.Name "zip" p) [e, e2] [] pos) (iZipM X.K ta) := by
  refine ⟨fun pins s σ H R I h => ?_⟩
  refine Call_ (ld_blt I hg hm PyProof.Rows.boot_zip (PyProof.Rows.callWith_type1 (thn (ha.run pos pins s σ H _ I h) fun us s1 ⟨vs, H1, I1, r1, a, b, xs, ys, ex, hx, hy, q⟩ => ?_) hs hpl))
  subst ex
  cases r1 with
  | cons r rr =>
    cases rr with
    | cons r' rr =>
      cases rr
      cases r
      cases r'
      obtain ⟨us, ru, pu, _⟩ := I1.tuple hx
      obtain ⟨vs, rv, pv, _⟩ := I1.list hy
      have la : a < s1.heap.objs.size := by obtain ⟨o, e, _⟩ := id pu; exact Heap.lt_size e
      refine zip_begins2 (begins_tuple a us.toArray) (begins_list b vs.toArray) pu pv.isList fun h' hz hI hO p1 p2 hsz hk => wpAny_pyIter_zip hz ?_
      have I2 : Inv X pins σ H1 { s1 with heap := h' } := I1.kept (t' := s1.toks) hk
      refine ⟨_, [s1.heap.objs.size + 4, s1.heap.objs.size + 2, s1.heap.objs.size + 3, s1.heap.objs.size, s1.heap.objs.size + 1], _, _, H1, rfl, I2, turn_mix (PySem.W.ktu_apart s1.heap.objs.size a b la pv.lt), ⟨hz, hI, ⟨_, _, hO⟩, ⟨_, p1, rfl, rfl⟩, ⟨_, p2, rfl, rfl⟩⟩, fun c hc => ?_, q⟩
      have hle : s1.heap.objs.size ≤ c := mem5 (p := fun c => s1.heap.objs.size ≤ c) hc (Nat.le_add_right _ _) (Nat.le_add_right _ _) (Nat.le_add_right _ _) (Nat.le_refl _) (Nat.le_add_right _ _)
      exact I1.fpOk hle (I1.hok.fresh hle)
theorem walk_mix {K : PySem.W.Frag} {a b : Addr} {xs ys : List V} (hl : xs.length = ys.length) : Walk (ItzM K a b) xs.length (fun H => SqT K H a xs ∧ SqL K H b ys) (YPair (xs[·]?) (ys[·]?)) where
  goes := fun i H hi ⟨h1, h2⟩ => ⟨xs, ys, _, _, h1, h2, List.getElem?_eq_getElem hi, List.getElem?_eq_getElem (by omega)⟩
  stops := fun H ⟨h1, h2⟩ => ⟨xs, ys, h1, h2, rfl, hl⟩
  yields := fun i H v H' _ ⟨h1, h2⟩ ⟨T, x, y, e, hT, eH, f1, f2⟩ => ⟨T, x, y, e, hT, eH, f1 xs h1, f2 ys h2⟩
end WB
namespace WK
open PySem PySem.Spec PyProof.Rows L2 He WB
section
variable {P : Program} {w : World} {K : PySem.W.Frag} {mg : Str → Option Value} {base : Heap}
theorem if_t {b : Bool} {A B : Prop} (e : b = true) (h : A) : if b = true then A else B := by rw [if_pos e]; exact h
theorem if_f {b : Bool} {A B : Prop} (e : b = false) (h : B) : if b = true then A else B := by rw [e, if_neg (by decide)]; exact h
def spWithin : Sp := fun vs H Q _ => ∃ i lo hi : Int, vs = [.int i, .int lo, .int hi] ∧ Q (.bl (decide (lo ≤ i) && decide (i ≤ hi))) H
theorem ok_is_within (T : Tx w K mg) : DefOk ⟨P, w, K, mg, base⟩ 1 (ga K "is_within") ["number", "least", "most"] spWithin := by
  refine DefOk.mk' (f_is_within T) sc_is_within (fun _ _ _ _ _ _ us hl => match us, hl with | [_, _, _], _ => rfl) (fun vs H Q E h => ?_) (fun cdv A outer s H vs Q E hr h => ?_)
  · obtain ⟨i, lo, hi, rfl, _⟩ := h
    rfl
  · obtain ⟨i, lo, hi, rfl, k⟩ := h
    have hu := hu_of hr
    refine ⟨_, (pss_cons (ps_if (PW.pt (pw_or (pt_not (pt_val (pe_callB call_isi (by rfl) (z_isinstance T) (by decide +kernel) (pa_cons (pv 0) (pa_cons (pe_bltn (v := .ty "int") (by rfl) (z_int T) (by decide +kernel) rfl) pa_nil))))) (pw_or1 (pt_val (pe_callB call_isi (by rfl) (z_isinstance T) (by decide +kernel) (pa_cons (pv 0) (pa_cons (pe_bltn (v := .ty "bool") (by rfl) (z_bool T) (by decide +kernel) rfl) pa_nil))))))) (pss_one (ps_ret pe_bl)) pss_nil) (pss_one (ps_ret (pe_chain op_le op_le (pv 1) (pv 0) (pv 2))))), ?_⟩
    refine ⟨_, rfl, _, _, _, _, _, rfl, .ty _, .base (.int i), kit_ty (r := true) (by decide +kernel), _, rfl, ?_⟩
    refine ⟨_, rfl, _, _, _, _, _, rfl, .ty _, .base (.int i), kit_ty (r := false) (by decide +kernel), _, rfl, ?_⟩
    refine if_f rfl ⟨_, rfl, _, rfl, _, _, rfl, rfl, _, rfl, ?_⟩
    cases q : decide (lo ≤ i) with
    | true =>
      rw [q, Bool.true_and] at k
      exact if_t rfl ⟨_, rfl, _, _, rfl, rfl, k⟩
    | false =>
      rw [q, Bool.false_and] at k
      exact if_f rfl k
def WordOk (sh : Str) (v : V) : Prop :=
  (sh = "name" ∧ ∃ x ∈ nmS, v = .str x) ∨ (sh = "goal" ∧ GoalOk v) ∨ (sh = "kind" ∧ ∃ x ∈ kindsS, v = .str x) ∨ (sh = "number" ∧ ∃ i : Int, v = .int i ∧ 0 ≤ i ∧ i ≤ 99) ∨ (sh = "part" ∧ ∃ k, v = kV k ∧ PartOk k)
def spWordOf : Sp := fun vs H Q _ => ∃ (sh : Str) (v : V), vs = [.str sh, v] ∧ WordOk sh v ∧ Q (.bl true) H
theorem strs_flat : ∀ xs : List Str, (xs.map V.str).all flatV = true
  | [] => rfl
  | _ :: r => strs_flat r
theorem in_strs {x : Str} : ∀ {xs : List Str}, x ∈ xs → inV (.str x) (xs.map V.str) = true
  | y :: r, h => by
    show (eqV (.str y) (.str x) || inV (.str x) (r.map V.str)) = true
    rcases List.mem_cons.mp h with rfl | h
    · show ((x == x) || _) = true
      rw [beq_self_eq_true]; rfl
    · rw [in_strs h, Bool.or_true]
theorem int_strs {i : Int} : ∀ {xs : List Str}, inV (.int i) (xs.map V.str) = false
  | [] => rfl
  | y :: r => by
    show (eqV (.str y) (.int i) || inV (.int i) (r.map V.str)) = false
    rw [int_strs]; rfl
theorem ok_is_word_of (T : Tx w K mg) : DefOk ⟨P, w, K, mg, base⟩ 2 (ga K "is_word_of") ["shape", "word"] spWordOf := by
  refine DefOk.mk' (f_is_word_of T) sc_is_word_of (fun _ _ _ _ _ _ us hl => match us, hl with | [_, _], _ => rfl) (fun vs H Q E h => ?_) (fun cdv A outer s H vs Q E hr h => ?_)
  · obtain ⟨sh, v, rfl, _⟩ := h
    rfl
  · obtain ⟨sh, v, rfl, wo, k⟩ := h
    have hu := hu_of hr
    refine ⟨_, (pss_cons (ps_if (pt_cmpR op_eq (pv 0) pe_str (nomark _)) (pss_one (ps_ret (pe_cmpR op_in_seq (pv 1) (pe_glob (v := .ref (ga K "NAMES")) rfl (g_NAMES T) rfl) (by rfl)))) pss_nil) (pss_cons (ps_if (pt_cmpR op_eq (pv 0) pe_str (nomark _)) (pss_one (ps_ret (pe_or (pe_cmpR op_isN (pv 1) pe_non (nomark _)) (pe_one (pe_cmpR op_in_seq (pv 1) (pe_glob (v := .ref (ga K "NAMES")) rfl (g_NAMES T) rfl) (by rfl)))))) pss_nil) (pss_cons (ps_if (pt_cmpR op_eq (pv 0) pe_str (nomark _)) (pss_one (ps_ret (pe_cmpR op_in_seq (pv 1) (pe_glob (v := .ref (ga K "KINDS")) rfl (g_KINDS T) rfl) (by rfl)))) pss_nil) (pss_cons (ps_if (pt_cmpR op_eq (pv 0) pe_str (nomark _)) (pss_one (ps_ret (pe_cg (M := ⟨P, w, K, mg, base⟩) rfl hr rfl (pa_cons (pv 1) (pa_cons pe_int (pa_cons (pe_glob (v := .int 99) rfl (i_MOST_NUMBER T).choose_spec ⟨_, rfl⟩) pa_nil)))))) pss_nil) (pss_one (ps_ret (pe_or (pe_cmpR op_in_seq (pv 1) (pe_glob (v := .ref (ga K "LETTERS")) rfl (g_LETTERS T) rfl) (by rfl)) (pe_one (pe_cg (M := ⟨P, w, K, mg, base⟩) rfl hr rfl (pa_cons (pv 1) (pa_cons pe_int (pa_cons (pe_glob (v := .int 9) rfl (i_MOST_PART T).choose_spec ⟨_, rfl⟩) pa_nil)))))))))))), ?_⟩
    rcases wo with ⟨rfl, x, hx, rfl⟩ | ⟨rfl, hg⟩ | ⟨rfl, x, hx, rfl⟩ | ⟨rfl, i, rfl, h0, h1⟩ | ⟨rfl, y, rfl, hy⟩
    · refine ⟨_, rfl, rfl, _, rfl, if_t (by decide +kernel) ⟨_, rfl, ga K "NAMES", nmS.map V.str, rfl, .inr (strsB_ok (x_tup_NAMES T) _), rfl, strs_flat _, ?_⟩⟩
      show Q (.bl (inV _ _)) H
      rw [in_strs hx]; exact k
    · refine ⟨_, rfl, rfl, _, rfl, if_f (by decide +kernel) ⟨_, rfl, rfl, _, rfl, if_t (by decide +kernel) ?_⟩⟩
      rcases hg with rfl | ⟨x, hx, rfl⟩
      · exact ⟨_, rfl, rfl, _, rfl, if_t (by decide +kernel) k⟩
      · refine ⟨_, rfl, rfl, _, rfl, if_f rfl ⟨_, rfl, ga K "NAMES", nmS.map V.str, rfl, .inr (strsB_ok (x_tup_NAMES T) _), rfl, strs_flat _, ?_⟩⟩
        show Q (.bl (inV _ _)) H
        rw [in_strs hx]; exact k
    · refine ⟨_, rfl, rfl, _, rfl, if_f (by decide +kernel) ⟨_, rfl, rfl, _, rfl, if_f (by decide +kernel) ⟨_, rfl, rfl, _, rfl, if_t (by decide +kernel) ⟨_, rfl, ga K "KINDS", kindsS.map V.str, rfl, .inr (strsB_ok (x_tup_KINDS T) _), rfl, strs_flat _, ?_⟩⟩⟩⟩
      show Q (.bl (inV _ _)) H
      rw [in_strs hx]; exact k
    · refine ⟨_, rfl, rfl, _, rfl, if_f (by decide +kernel) ⟨_, rfl, rfl, _, rfl, if_f (by decide +kernel) ⟨_, rfl, rfl, _, rfl, if_f (by decide +kernel) ⟨_, rfl, rfl, _, rfl, if_t (by decide +kernel) ?_⟩⟩⟩⟩
      refine ⟨_, _, _, _, g_is_within T, ok_is_within T, by decide, _, rfl, i, 0, 99, rfl, ?_⟩
      rw [decide_eq_true h0, decide_eq_true h1]; exact k
    · refine ⟨_, rfl, rfl, _, rfl, if_f (by decide +kernel) ⟨_, rfl, rfl, _, rfl, if_f (by decide +kernel) ⟨_, rfl, rfl, _, rfl, if_f (by decide +kernel) ⟨_, rfl, rfl, _, rfl, if_f (by decide +kernel) ?_⟩⟩⟩⟩
      cases y with
      | inl i =>
        refine ⟨_, rfl, ga K "LETTERS", lets.map V.str, rfl, .inr (strsB_ok (x_tup_LETTERS T) _), rfl, strs_flat _, _, rfl, ?_⟩
        refine if_f int_strs ⟨_, _, _, _, g_is_within T, ok_is_within T, by decide, _, rfl, i, 0, 9, rfl, ?_⟩
        rw [decide_eq_true hy.1, decide_eq_true hy.2]; exact k
      | inr z =>
        exact ⟨_, rfl, ga K "LETTERS", lets.map V.str, rfl, .inr (strsB_ok (x_tup_LETTERS T) _), rfl, strs_flat _, _, rfl, if_t (in_strs hy) k⟩
end
end WK
namespace WK
open PySem PySem.Spec PyProof.Rows L2 He WB
section
variable {P : Program} {w : World} {K : PySem.W.Frag} {mg : Str → Option Value} {base : Heap}
def shapesOf : Deed → List Str
  | .make _ _ => ["name", "kind"]
  | .num _ _ => ["name", "number"]
  | .copy _ _ => ["name", "name"]
  | .drop _ => ["name"]
  | .put _ _ _ => ["name", "part", "name"]
  | .take _ _ _ => ["name", "name", "part"]
  | .cut _ _ => ["name", "part"]
  | .watch _ _ => ["name", "name"]
  | .last _ _ => ["name", "goal"]
  | .ask _ _ => ["name", "name"]
  | .settle => []
  | .say _ => ["name"]
theorem wo_name {x : Str} (h : x ∈ nmS) : WordOk "name" (.str x) := .inl ⟨rfl, x, h, rfl⟩
theorem wo_part {k : Key} (h : PartOk k) : WordOk "part" (kV k) := .inr (.inr (.inr (.inr ⟨rfl, k, rfl, h⟩)))
theorem words_ok : (d : Deed) → d.ok → Paired WordOk (shapesOf d) d.args
  | .make _ _, h => .cons (wo_name h.1) (.cons (.inr (.inr (.inl ⟨rfl, _, h.2, rfl⟩))) .nil)
  | .num _ _, h => .cons (wo_name h.1) (.cons (.inr (.inr (.inr (.inl ⟨rfl, _, rfl, h.2⟩)))) .nil)
  | .copy _ _, h => .cons (wo_name h.1) (.cons (wo_name h.2) .nil)
  | .drop _, h => .cons (wo_name h) .nil
  | .put _ _ _, h => .cons (wo_name h.1) (.cons (wo_part h.2.1) (.cons (wo_name h.2.2) .nil))
  | .take _ _ _, h => .cons (wo_name h.1) (.cons (wo_name h.2.1) (.cons (wo_part h.2.2) .nil))
  | .cut _ _, h => .cons (wo_name h.1) (.cons (wo_part h.2) .nil)
  | .watch _ _, h => .cons (wo_name h.1) (.cons (wo_name h.2) .nil)
  | .last _ _, h => .cons (wo_name h.1) (.cons (.inr (.inl ⟨rfl, h.2⟩)) .nil)
  | .ask _ _, h => .cons (wo_name h.1) (.cons (wo_name h.2) .nil)
  | .settle, _ => .nil
  | .say _, h => .cons (wo_name h) .nil
theorem sh_at (T : Tx w K mg) {x : Str} {vs : List Str} (h : (Fx.ttup "SHAPES" x vs).ok K = true) : PySem.W.nsIn K (ga K "SHAPES") x = some (some (.ref (ta K "SHAPES" x))) ∧ KDct K w (ga K "SHAPES") x (.ref (ta K "SHAPES" x)) ∧ ∀ H, SqT K H (ta K "SHAPES" x) (vs.map V.str) := by
  obtain ⟨f1, f2⟩ := ba h
  have D := (k_SHAPES T).choose_spec.choose_spec
  exact ⟨eqO_ok f1, ⟨_, _, _, D.at_, D.lit, eqO_ok f1, rfl⟩, strsB_ok f2⟩
theorem shapes_at (T : Tx w K mg) (d : Deed) : ∃ p, PySem.W.nsIn K (ga K "SHAPES") d.word = some (some (.ref p)) ∧ KDct K w (ga K "SHAPES") d.word (.ref p) ∧ ∀ H, SqT K H p ((shapesOf d).map V.str) := by
  cases d with
  | make x y => exact ⟨_, sh_at T (x_SHAPES_make T)⟩
  | num x y => exact ⟨_, sh_at T (x_SHAPES_num T)⟩
  | copy x y => exact ⟨_, sh_at T (x_SHAPES_copy T)⟩
  | drop x => exact ⟨_, sh_at T (x_SHAPES_drop T)⟩
  | put x y z => exact ⟨_, sh_at T (x_SHAPES_put T)⟩
  | take x y z => exact ⟨_, sh_at T (x_SHAPES_take T)⟩
  | cut x z => exact ⟨_, sh_at T (x_SHAPES_cut T)⟩
  | watch x y => exact ⟨_, sh_at T (x_SHAPES_watch T)⟩
  | last x y => exact ⟨_, sh_at T (x_SHAPES_last T)⟩
  | ask x y => exact ⟨_, sh_at T (x_SHAPES_ask T)⟩
  | settle => exact ⟨_, sh_at T (x_SHAPES_settle T)⟩
  | say x => exact ⟨_, sh_at T (x_SHAPES_say T)⟩
def DeedAt (H : Hp) (p : Addr) (d : Deed) : Prop := d.ok ∧ H p = some (.tup (.str d.word :: d.args))
def spIsDeed : Sp := fun vs H Q _ => ∃ (p : Addr) (d : Deed), vs = [.ref p] ∧ DeedAt H p d ∧ ∀ H', Same H H' → Q (.bl true) H'
theorem ok_is_deed (T : Tx w K mg) : DefOk ⟨P, w, K, mg, base⟩ 3 (ga K "is_deed") ["deed"] spIsDeed := by
  refine DefOk.mk' (f_is_deed T) sc_is_deed (fun _ _ _ _ _ _ us hl => match us, hl with | [_], _ => rfl) (fun vs H Q E h => ?_) (fun cdv A outer s H vs Q E hr h => ?_)
  · obtain ⟨p, d, rfl, _⟩ := h
    rfl
  · obtain ⟨p, d, rfl, ⟨hd, hp⟩, k⟩ := h
    have hu := hu_of hr
    refine ⟨_, (pss_cons (ps_if (PW.pt (pw_or (pt_not (pt_val (pe_callB call_isi (by rfl) (z_isinstance T) (by decide +kernel) (pa_cons (pv 0) (pa_cons (pe_bltn (v := .ty "tuple") (by rfl) (z_tuple T) (by decide +kernel) rfl) pa_nil))))) (pw_or1 (pt_not (pt_truth (pv 0) (by intro _; rfl)))))) (pss_one (ps_ret pe_bl)) pss_nil) (pss_cons (ps_asg (pv 0) (pg_star rfl (pgs_cons (pg_name (i := 1) sc_is_deed.nd rfl (Or.inl rfl)) (pgs_cons (pg_name (i := 2) sc_is_deed.nd rfl (Or.inl rfl)) pgs_nil)))) (pss_cons (ps_if (PW.pt (pw_or (pt_not (pt_val (pe_callB call_isi (by rfl) (z_isinstance T) (by decide +kernel) (pa_cons (pv 1) (pa_cons (pe_bltn (v := .ty "str") (by rfl) (z_str T) (by decide +kernel) rfl) pa_nil))))) (pw_or1 (pt_cmpR (op_notIn_kd (k_SHAPES T).choose_spec.choose_spec) (pv 1) (pe_glob (v := .ref (ga K "SHAPES")) rfl (g_SHAPES T) rfl) (by rfl))))) (pss_one (ps_ret pe_bl)) pss_nil) (pss_cons (ps_set (i := 3) sc_is_deed.nd rfl (Or.inl rfl) (pe_ix ix_kdict (pe_glob (v := .ref (ga K "SHAPES")) rfl (g_SHAPES T) rfl) (pv 1) (fun _ _ => rfl))) (pss_cons (ps_if (pt_cmpR op_ne (pe_callB call_len_seq (by rfl) (z_len T) PySem.boot_len (pa_cons (pv 2) pa_nil)) (pe_callB call_len_seq (by rfl) (z_len T) PySem.boot_len (pa_cons (pv 3) pa_nil)) (nomark _)) (pss_one (ps_ret pe_bl)) pss_nil) (pss_one (ps_ret (pe_callB (cr_all rfl) (by rfl) (z_all T) (by decide +kernel) (pa_cons (pe_lc (own := [("shape", 4), ("part", 5)]) (g := (gTup K 2 (gCons (gName 4) (gCons (gName 5) gNil)))) rfl sc_is_deed.nd (pi_zipM (by rfl) (z_zip T) (pa_cons (pv 3) (pa_cons (pv 2) pa_nil))) (blkOk_by (own := [("shape", 4), ("part", 5)]) (N := ["deed", "word", "parts", "shapes", "shape", "part"]) (sc := defScope s_is_deed) (by decide +kernel)) (fun _ _ _ _ _ => (pg_tupK (K := K) rfl rfl (pgs_cons (pg_name (i := 4) sc_is_deed.nd rfl (Or.inl rfl)) (pgs_cons (pg_name (i := 5) sc_is_deed.nd rfl (Or.inl rfl)) pgs_nil)))) (fun _ _ _ _ _ => by exact pts_nil) (fun _ _ _ _ _ => by exact (pe_cg (M := ⟨P, w, K, mg, base⟩) rfl hr rfl (pa_cons (pv 4) (pa_cons (pv 5) pa_nil))))) pa_nil))))))))), ?_⟩
    have wo := words_ok d hd
    have wl := Paired.length wo
    have la : d.args.length ≤ 3 := by cases d <;> simp [Deed.args]
    obtain ⟨sp, s1, s2, s3⟩ := shapes_at T d
    refine ⟨_, rfl, _, _, _, _, _, rfl, .ty _, .base (.tup hp), kit_ty (r := true) (by decide +kernel), _, rfl, ?_⟩
    refine ⟨_, rfl, _, .inr (.inl ⟨_, SqT.of hp, rfl⟩), if_f rfl ?_⟩
    refine ⟨_, rfl, p, _, _, rfl, SqT.of hp, by omega, fun D hD => ⟨_, _, rfl, _, _, rfl, rfl, ?_⟩⟩
    have sa : Same H (upd H D (.lst d.args)) := same_new hD
    refine ⟨_, rfl, _, _, _, _, _, rfl, .ty _, .base (.str _), kit_ty (r := true) (by decide +kernel), _, rfl, ?_⟩
    refine ⟨_, rfl, _, _, rfl, rfl, s1, _, rfl, if_f rfl ?_⟩
    refine ⟨_, rfl, _, _, _, rfl, rfl, s2, ?_⟩
    refine ⟨_, rfl, D, d.args, rfl, .inl (SqL.of upd_same), _, rfl, sp, _, rfl, .inr (s3 _), rfl, _, rfl, ?_⟩
    refine if_f (by rw [List.length_map, wl]; simp) ?_
    refine ⟨_, rfl, _, rfl, sp, D, _, _, rfl, s3 _, SqL.of upd_same, fun L hL => ?_⟩
    have nDL : D ≠ L := fun z => by rw [← z, upd_same] at hL; cases hL
    refine lc_it (walk_mix (xs := (shapesOf d).map V.str) (ys := d.args) (by rw [List.length_map]; exact wl)) (fun i H' => Same (upd H D (.lst d.args)) H' ∧ H' L = some (.lst ((List.replicate i true).map V.bl)))
      ⟨same_new hL, upd_same⟩ (fun i H' _ h => ⟨s3 _, SqL.of (h.1 _ _ upd_same)⟩) ?_ ?_
    · rintro i x H1 H2 hi ⟨q1, q2⟩ ⟨X0, a0, b0, rfl, hX, rfl, ha, hb⟩
      have ha' : ((shapesOf d).map V.str)[i]? = some a0 := ha
      rw [List.getElem?_map] at ha'
      obtain ⟨sh, hsh, rfl⟩ := Option.map_eq_some_iff.mp ha'
      have wk : WordOk sh b0 := by
        rcases Paired.at i wo with ⟨z, _⟩ | ⟨u, v, z1, z2, z3⟩
        · rw [hsh] at z; cases z
        · rw [hsh] at z1; cases z1
          rw [show d.args[i]? = some b0 from hb] at z2; cases z2
          exact z3
      refine ⟨X0, _, rfl, SqT.of upd_same, rfl, _, _, rfl, _, _, rfl, rfl, rfl, ?_⟩
      have q3 : Same (upd H D (.lst d.args)) (upd H1 X0 (.tup [.str sh, b0])) := q1.trans (same_new hX)
      have nLX : L ≠ X0 := ne_of_none q2 hX
      refine ⟨_, _, _, _, g_is_word_of T, ok_is_word_of T, by decide, _, rfl, _, rfl, sh, b0, rfl, wk, _, (by rw [upd_ne nLX]; exact q2), szl (by rw [List.length_map, List.length_replicate]; rw [List.length_map] at hi; omega), same_mut q3 hL, ?_⟩
      rw [upd_same, List.replicate_succ', List.map_append]; rfl
    · rintro H' ⟨q1, q2⟩
      refine ⟨L, _, rfl, SqL.of q2, ?_⟩
      have al : ∀ n : Nat, (List.replicate n true).all id = true := fun n => by
        induction n with
        | zero => rfl
        | succ n ih => rw [List.replicate_succ]; exact ih
      rw [al]
      exact k H' (sa.trans q1)
end
end WK
/-! The state stays right whatever deed is done. -/
namespace WB
open PySem PySem.Spec PyProof.Rows L2 He
theorem valV_vals {kvs : List (Key × V)} {k : Key} {v : V} (h : valV kvs k = some v) : v ∈ kvs.map (·.2) := by
  unfold valV at h
  obtain ⟨p, hp, e⟩ := Option.map_eq_some_iff.mp h
  exact List.mem_map.mpr ⟨p, List.mem_of_find?_eq_some hp, e⟩
theorem valV_key {kvs : List (Key × V)} {k : Key} (h : (valV kvs k).isSome = true) : k ∈ kvs.map (·.1) := by
  rw [← valV_any] at h
  obtain ⟨p, hp, e⟩ := List.any_eq_true.mp h
  exact List.mem_map.mpr ⟨p, hp, of_decide_eq_true e⟩
theorem getD_ref {kvs : List (Key × V)} {k : Key} {j : Nat} (h : (valV kvs k).getD .non = .ref j) : V.ref j ∈ kvs.map (·.2) := by
  cases e : valV kvs k with
  | none => rw [e] at h; cases h
  | some v => rw [e] at h; cases (show v = .ref j from h); exact valV_vals e
theorem held_vals {b : Body} {k : Nat} (h : k ∈ b.held) : V.ref k ∈ b.vals := by
  cases b with
  | wat s g => cases h
  | row xs =>
    have h1 := mem_refs_iff.mp h
    obtain ⟨p, hp, e⟩ := List.mem_map.mp h1
    obtain ⟨q, hq, rfl⟩ := List.mem_map.mp hp
    have : q.1 ∈ xs := by
      have := List.mem_zipIdx' hq
      rw [this.2]; exact List.getElem_mem _
    rwa [show q.1 = .ref k from e] at this
  | dic r kvs =>
    cases r with
    | true =>
      obtain ⟨p, hp, e⟩ := List.mem_map.mp (mem_refs_iff.mp h)
      obtain ⟨q, _, rfl⟩ := List.mem_map.mp hp
      exact getD_ref e
    | false =>
      obtain ⟨p, hp, e⟩ := List.mem_map.mp (mem_refs_iff.mp h)
      obtain ⟨q, _, rfl⟩ := List.mem_map.mp hp
      exact getD_ref e
theorem Ok.kept_lt {S : Sta} (o : Ok S) {k : Nat} (h : KeptA S k) : k < S.made := by
  induction h with
  | start h _ =>
    rcases List.mem_append.mp h with h | h
    · obtain ⟨p, hp, e⟩ := List.mem_map.mp (mem_refs_iff.mp h)
      have := o.nv p hp
      rw [e] at this; exact this
    · exact (mem_due h).1
  | step _ hk _ ih => exact o.bv _ ih _ (held_vals hk)
theorem Liv.range {S : Sta} (o : Ok S) (h : S.made ≤ 800) : Liv S (List.range S.made) :=
  ⟨fun _ hk => List.mem_range.mp hk, List.pairwise_lt_range, by rw [List.length_range]; exact h, fun _ hk => List.mem_range.mpr (o.kept_lt hk)⟩
theorem Ok.look_ok {S : Sta} (o : Ok S) (x : Str) : VOk S.made (S.look x) := by
  unfold Sta.look
  cases e : valV S.names (.inr x) with
  | none => exact trivial
  | some v =>
    obtain ⟨p, hp, e2⟩ := List.mem_map.mp (valV_vals e)
    rw [show (some v).getD .non = v from rfl, ← e2]
    exact o.nv p hp
theorem Ok.look_lt {S : Sta} (o : Ok S) {x : Str} {j : Nat} (e : S.look x = .ref j) : j < S.made := by
  have := o.look_ok x
  rw [e] at this; exact this
theorem vals_put {b : Body} {k : Key} {u v : V} (h : v ∈ (b.put k u).vals) : v ∈ b.vals ∨ v = u := by
  cases b with
  | wat s g => cases h
  | dic r kvs =>
    obtain ⟨p, hp, e⟩ := List.mem_map.mp h
    rcases putK_mem hp with q | q
    · exact .inl (List.mem_map.mpr ⟨p, q, e⟩)
    · rw [q] at e; exact .inr e.symm
  | row xs =>
    have h' : v ∈ (if keyN k = xs.length then Body.row (xs ++ [u]) else Body.row (xs.set (keyN k) u)).vals := h
    split at h'
    · rcases List.mem_append.mp h' with q | q
      · exact .inl q
      · exact .inr (List.mem_singleton.mp q)
    · rcases List.mem_or_eq_of_mem_set h' with q | q
      · exact .inl q
      · exact .inr q
theorem vals_cut {b : Body} {k : Key} {v : V} (h : v ∈ (b.cut k).vals) : v ∈ b.vals ∨ v = .non := by
  cases b with
  | wat s g => cases h
  | dic r kvs =>
    cases r with
    | true =>
      obtain ⟨p, hp, e⟩ := List.mem_map.mp h
      rcases putK_mem hp with q | q
      · exact .inl (List.mem_map.mpr ⟨p, q, e⟩)
      · rw [q] at e; exact .inr e.symm
    | false =>
      obtain ⟨p, hp, e⟩ := List.mem_map.mp h
      exact .inl (List.mem_map.mpr ⟨p, (List.mem_filter.mp hp).1, e⟩)
  | row xs => exact .inl (List.mem_of_mem_eraseIdx h)
theorem at_vals {b : Body} {k : Key} : b.at k ∈ b.vals ∨ b.at k = .non := by
  cases b with
  | wat s g => exact .inr rfl
  | dic r kvs =>
    show (valV kvs k).getD .non ∈ _ ∨ (valV kvs k).getD .non = _
    cases e : valV kvs k with
    | none => exact .inr rfl
    | some v => exact .inl (valV_vals e)
  | row xs =>
    show xs.getD (keyN k) .non ∈ xs ∨ xs.getD (keyN k) .non = _
    rw [List.getD_eq_getElem?_getD]
    cases e : xs[keyN k]? with
    | none => exact .inr rfl
    | some v => exact .inl (List.mem_of_getElem? e)
theorem wf_put {b : Body} {k : Key} {u : V} (w : b.wf) (f : b.fits k = true) : (b.put k u).wf := by
  cases b with
  | wat s g => exact trivial
  | dic r kvs =>
    cases r with
    | true => exact (putK_keys' (valV_key f)).trans w
    | false =>
      obtain ⟨w1, w2, w3⟩ := w
      have f' : ((valV kvs k).isSome || (inR 0 10 k && decide (kvs.length < 6))) = true := f
      cases hs : (valV kvs k).isSome with
      | true =>
        have e := putK_keys' (v := u) (valV_key hs)
        refine ⟨by rw [e]; exact w1, by rw [← List.length_map (f := (·.1)), e, List.length_map]; exact w2, fun p hp => ?_⟩
        rcases putK_mem hp with q | q
        · exact w3 p q
        · obtain ⟨p', hp', e'⟩ := List.mem_map.mp (valV_key hs)
          obtain ⟨i, hi, h2⟩ := w3 p' hp'
          exact ⟨i, by rw [q]; exact (e'.symm.trans hi), h2⟩
      | false =>
        rw [hs, Bool.false_or, Bool.and_eq_true] at f'
        obtain ⟨f1, f2⟩ := f'
        have f2 := of_decide_eq_true f2
        have nk : k ∉ kvs.map (·.1) := fun m => by
          have := valV_any k kvs
          rw [hs] at this
          obtain ⟨p, hp, e⟩ := List.mem_map.mp m
          exact absurd (List.any_eq_true.mpr ⟨p, hp, decide_eq_true e⟩) (by rw [this]; decide)
        have e : putK kvs k u = kvs ++ [(k, u)] := by
          unfold putK
          rw [if_neg (by rw [valV_any, hs]; decide)]
        cases k with
        | inr z => cases f1
        | inl i =>
          have f1 := of_decide_eq_true f1
          show (Body.dic false (putK kvs (.inl i) u)).wf
          rw [e]
          refine ⟨?_, by rw [List.length_append]; show kvs.length + 1 ≤ 6; omega, fun p hp => ?_⟩
          · rw [List.map_append]
            exact List.nodup_append.mpr ⟨w1, List.nodup_cons.mpr ⟨List.not_mem_nil, List.nodup_nil⟩, fun a ha b hb e => nk (by have q : a = .inl i := e.trans (List.mem_singleton.mp hb); rw [← q]; exact ha)⟩
          · rcases List.mem_append.mp hp with q | q
            · exact w3 p q
            · exact ⟨i, by rw [List.mem_singleton.mp q], f1.1, f1.2⟩
  | row xs =>
    cases k with
    | inr z => cases f
    | inl i =>
      have f' := of_decide_eq_true (show decide (0 ≤ i ∧ i < min ((xs.length : Int) + 1) 8) = true from f)
      have w' : xs.length ≤ 8 := w
      show (if i.toNat = xs.length then Body.row (xs ++ [u]) else Body.row (xs.set i.toNat u)).wf
      split
      · show (xs ++ [u]).length ≤ 8
        rw [List.length_append, List.length_singleton]; omega
      · show (xs.set i.toNat u).length ≤ 8
        rw [List.length_set]; exact w'
theorem wf_cut {b : Body} {k : Key} (w : b.wf) (f : b.has k = true) : (b.cut k).wf := by
  cases b with
  | wat s g => exact trivial
  | dic r kvs =>
    cases r with
    | true => exact (putK_keys' (valV_key f)).trans w
    | false =>
      obtain ⟨w1, w2, w3⟩ := w
      exact ⟨(List.filter_sublist.map _).nodup w1, Nat.le_trans (List.length_filter_le _ _) w2, fun p hp => w3 p (List.mem_filter.mp hp).1⟩
  | row xs =>
    show (xs.eraseIdx (keyN k)).length ≤ 8
    have w' : xs.length ≤ 8 := w
    have := List.length_eraseIdx_le xs (keyN k)
    omega
theorem fits_notWat {b : Body} {k : Key} (f : b.fits k = true) : b.isWat = false := by
  cases b with
  | wat s g => cases f
  | _ => rfl
theorem has_notWat {b : Body} {k : Key} (f : b.has k = true) : b.isWat = false := by
  cases b with
  | wat s g => cases f
  | _ => rfl
theorem put_isWat {b : Body} {k : Key} {u : V} : (b.put k u).isWat = b.isWat := by
  cases b with
  | row xs => show (if keyN k = xs.length then Body.row (xs ++ [u]) else Body.row (xs.set (keyN k) u)).isWat = _; split <;> rfl
  | _ => rfl
theorem cut_isWat {b : Body} {k : Key} : (b.cut k).isWat = b.isWat := by
  cases b with
  | dic r kvs => cases r <;> rfl
  | _ => rfl
theorem wat_false {b : Body} {s : Nat} {g : Bool} (h : b.isWat = false) (e : b = .wat s g) : False := by rw [e] at h; cases h
end WB
/-! Deeds keep the state right. -/
namespace WB
open PySem PySem.Spec PyProof.Rows L2 He
theorem foldP_ok1 : ∀ {js : List Nat} {S : Sta}, js.Nodup → (∀ j ∈ js, j < S.made ∧ (S.th j).last = .due) → Ok S → Ok (js.foldl performS S)
  | [], S, _, _, o => o
  | j :: r, S, nd, h, o => by
    obtain ⟨n1, n2⟩ := List.nodup_cons.mp nd
    obtain ⟨h1, h2⟩ := h j List.mem_cons_self
    rw [List.foldl_cons]
    refine foldP_ok1 n2 (fun i hi => ?_) (o.perform h1 h2)
    have q := h i (List.mem_cons_of_mem _ hi)
    rw [perform_made, perform_th, if_neg (by rintro rfl; exact n1 hi)]
    exact q
theorem turn_ok {S : Sta} (o : Ok S) : Ok ((turnS S).foldl performS S) :=
  foldP_ok1 ((dues_srt.filter _).imp fun h => Nat.ne_of_lt h) (fun j hj => mem_due (List.mem_filter.mp hj).1) o
theorem Settle.ok {S S' : Sta} {ks : List Nat} (h : Settle S ks S') : Ok S → Ok S' ∧ S'.made = S.made := by
  induction h with
  | done _ => exact fun o => ⟨o.tellBy, rfl⟩
  | turn _ _ ih =>
    intro o
    obtain ⟨a, b⟩ := ih (turn_ok o.tellBy)
    exact ⟨a, b.trans (foldP_made.trans rfl)⟩
theorem emptyB_wf {kind : Str} : (emptyB kind).wf := by
  unfold emptyB
  split
  · show rec0.map (·.1) = letK
    unfold rec0; rw [List.map_map]; exact List.map_id _
  · split
    · exact Nat.zero_le _
    · exact ⟨List.nodup_nil, Nat.zero_le _, fun p hp => by cases hp⟩
theorem emptyB_vals {kind : Str} {v : V} (h : v ∈ (emptyB kind).vals) : v = .non := by
  unfold emptyB at h
  split at h
  · obtain ⟨p, hp, e⟩ := List.mem_map.mp h
    unfold rec0 at hp
    obtain ⟨k, _, rfl⟩ := List.mem_map.mp hp
    exact e.symm
  · split at h
    · cases h
    · cases h
theorem emptyB_not {kind : Str} {s : Nat} {g : Bool} (h : emptyB kind = .wat s g) : False := by
  unfold emptyB at h
  split at h
  · cases h
  · split at h <;> cases h
theorem Ok.at_ok {S : Sta} (o : Ok S) {j : Nat} (hj : j < S.made) (k : Key) : VOk S.made ((S.th j).body.at k) := by
  rcases at_vals (b := (S.th j).body) (k := k) with h | h
  · exact o.bv j hj _ h
  · rw [h]; exact trivial
theorem Ok.step {S S' : Sta} {d : Deed} {t : Told} {c : Chg} (o : Ok S) (hd : d.ok) (h : StepR S d S' t c) : Ok S' ∧ (S'.made = S.made ∨ S'.made = S.made + 1) := by
  cases h with
  | settle h => exact ⟨(h.ok o).1, .inl (h.ok o).2⟩
  | other h =>
    cases d with
    | settle => exact absurd rfl h
    | make x kind => exact ⟨(o.add (t := ⟨emptyB kind, .no, .non⟩) emptyB_wf (fun v hv => by rw [emptyB_vals hv]; exact trivial) (fun s g e => (emptyB_not e).elim) (.inl rfl)).setName hd.1 (Nat.lt_succ_self _), .inr rfl⟩
    | num x n => exact ⟨o.setName hd.1 trivial, .inl rfl⟩
    | copy x y => exact ⟨o.setName hd.1 (o.look_ok y), .inl rfl⟩
    | drop x => exact ⟨o.setName hd trivial, .inl rfl⟩
    | say x => exact ⟨o, .inl rfl⟩
    | put x k y =>
      by_cases e : ∃ j, S.look x = .ref j
      · obtain ⟨j, e⟩ := e
        have hj := o.look_lt e
        cases f : (S.th j).body.fits k with
        | false => rw [put_no' e f]; exact ⟨o, .inl rfl⟩
        | true =>
          rw [put_yes e f]
          refine ⟨o.setTh (wf_put (o.wf j hj) f) (fun v hv => ?_) (fun s g q => (wat_false (put_isWat.trans (fits_notWat f)) q).elim) (o.gl j hj), .inl rfl⟩
          rcases vals_put hv with q | rfl
          · exact o.bv j hj v q
          · exact o.look_ok y
      · rw [put_no fun j q => e ⟨j, q⟩]; exact ⟨o, .inl rfl⟩
    | take x y k =>
      by_cases e : ∃ j, S.look y = .ref j
      · obtain ⟨j, e⟩ := e
        cases f : (S.th j).body.has k with
        | false => rw [take_no' e f]; exact ⟨o, .inl rfl⟩
        | true => rw [take_yes e f]; exact ⟨o.setName hd.1 (o.at_ok (o.look_lt e) k), .inl rfl⟩
      · rw [take_no fun j q => e ⟨j, q⟩]; exact ⟨o, .inl rfl⟩
    | cut x k =>
      by_cases e : ∃ j, S.look x = .ref j
      · obtain ⟨j, e⟩ := e
        have hj := o.look_lt e
        cases f : (S.th j).body.has k with
        | false => rw [cut_no' e f]; exact ⟨o, .inl rfl⟩
        | true =>
          rw [cut_yes e f]
          refine ⟨o.setTh (wf_cut (o.wf j hj) f) (fun v hv => ?_) (fun s g q => (wat_false (cut_isWat.trans (has_notWat f)) q).elim) (o.gl j hj), .inl rfl⟩
          rcases vals_cut hv with q | rfl
          · exact o.bv j hj v q
          · exact trivial
      · rw [cut_no fun j q => e ⟨j, q⟩]; exact ⟨o, .inl rfl⟩
    | watch x y =>
      by_cases e : ∃ j, S.look y = .ref j
      · obtain ⟨j, e⟩ := e
        rw [watch_yes e]
        exact ⟨(o.add (t := ⟨.wat j false, .no, .non⟩) trivial (fun v hv => by cases hv) (fun s g q => by cases q; exact ⟨Nat.lt_succ_of_lt (o.look_lt e), rfl⟩) (.inl rfl)).setName hd.1 (Nat.lt_succ_self _), .inr rfl⟩
      · rw [watch_no fun j q => e ⟨j, q⟩]; exact ⟨o, .inl rfl⟩
    | last x g =>
      by_cases e : ∃ j, S.look x = .ref j
      · obtain ⟨j, e⟩ := e
        have hj := o.look_lt e
        cases f : ((S.th j).body.isWat || (S.th j).last != .no) with
        | true => rw [last_no' e f]; exact ⟨o, .inl rfl⟩
        | false =>
          rw [last_yes e f]
          rw [Bool.or_eq_false_iff] at f
          exact ⟨o.setTh (o.wf j hj) (o.bv j hj) (fun s g q => (wat_false f.1 q).elim) hd.2, .inl rfl⟩
      · rw [last_no fun j q => e ⟨j, q⟩]; exact ⟨o, .inl rfl⟩
    | ask x y =>
      by_cases e : ∃ j, S.look y = .ref j
      · obtain ⟨j, e⟩ := e
        have hj := o.look_lt e
        cases f : ((S.tellBy (ReachA S)).th j).body.isWat with
        | false => rw [ask_no' e f]; exact ⟨o, .inl rfl⟩
        | true =>
          obtain ⟨s, b, q⟩ : ∃ s b, ((S.tellBy (ReachA S)).th j).body = .wat s b := by
            cases q : ((S.tellBy (ReachA S)).th j).body with
            | wat s b => exact ⟨s, b, rfl⟩
            | dic r z => rw [q] at f; cases f
            | row z => rw [q] at f; cases f
          rw [ask_yes e q]
          have o2 := o.tellBy (R := ReachA S)
          refine ⟨o2.setName hd.1 ?_, .inl rfl⟩
          cases b with
          | true => exact trivial
          | false => exact (o2.wv j hj s false q).1
      · rw [ask_no fun j q => e ⟨j, q⟩]; exact ⟨o, .inl rfl⟩
theorem range_live {S S' : Sta} (h : S'.made = S.made ∨ S'.made = S.made + 1) : (if S'.made = S.made then List.range S.made else List.range S.made ++ [S.made]) = List.range S'.made := by
  rcases h with h | h
  · rw [if_pos h, h]
  · rw [if_neg (by omega), h, List.range_succ]
end WB
namespace WK
open PySem PySem.Spec PyProof.Rows L2 He WB
section
variable {P : Program} {w : World} {K : PySem.W.Frag} {mg : Str → Option Value} {base : Heap}
theorem DeedAt.same {H H' : Hp} (s : Same H H') {p : Addr} {d : Deed} (h : DeedAt H p d) : DeedAt H' p d := ⟨h.1, s _ _ h.2⟩
def spCheck (K : PySem.W.Frag) : Sp := fun vs H Q _ => ∃ (l : Addr) (ps : List Addr) (ds : List Deed), vs = [.ref l] ∧ SqL K H l (ps.map V.ref) ∧ Paired (DeedAt H) ps ds ∧ ps.length ≤ 120 ∧ ∀ H', Same H H' → Q .non H'
theorem ok_check_program (T : Tx w K mg) : DefOk ⟨P, w, K, mg, base⟩ 4 (ga K "check_program") ["program"] (spCheck K) := by
  refine DefOk.mk' (f_check_program T) sc_check_program (fun _ _ _ _ _ _ us hl => match us, hl with | [_], _ => rfl) (fun vs H Q E h => ?_) (fun cdv A outer s H vs Q E hr h => ?_)
  · obtain ⟨l, ps, ds, rfl, _⟩ := h
    rfl
  · obtain ⟨l, ps, ds, rfl, hl, hp, l1, k⟩ := h
    have hu := hu_of hr
    refine ⟨_, (pss_one (ps_for PassesOwn.never rfl (pi_enum (by rfl) (z_enumerate T) (pa_cons (pv 0) pa_nil)) (pg_tup rfl (pgs_cons (pg_name (i := 1) sc_check_program.nd rfl (Or.inl rfl)) (pgs_cons (pg_name (i := 2) sc_check_program.nd rfl (Or.inl rfl)) pgs_nil))) (pss_one (ps_if (PW.pt (pw_or (pt_cmpR op_eq (pv 1) (pe_glob (v := .int 120) rfl (i_MOST_DEEDS T).choose_spec ⟨_, rfl⟩) (nomark _)) (pw_or1 (pt_not (pt_val (pe_cg (M := ⟨P, w, K, mg, base⟩) rfl hr rfl (pa_cons (pv 2) pa_nil))))))) (pss_one ps_never) pss_nil)))), ?_⟩
    refine ⟨_, rfl, l, _, rfl, hl, ?_⟩
    refine for_it walk_enum (fun i σ H' => ∃ x1 x2, σ = [some (.ref l), x1, x2] ∧ Same H H') ⟨_, _, rfl, Same.refl H⟩ (fun i σ H' _ ⟨_, _, _, s⟩ => s.seq hl) ?_ ?_
    · rintro i x σ H1 H2 hi ⟨x1, x2, rfl, s1⟩ ⟨X0, a0, b0, rfl, hX, rfl, ha, hb⟩
      cases ha
      have hb' : (ps.map V.ref)[i]? = some b0 := hb
      rw [List.getElem?_map] at hb'
      obtain ⟨p, hpi, rfl⟩ := Option.map_eq_some_iff.mp hb'
      rw [List.length_map] at hi
      have s2 : Same H (upd H1 X0 (.tup [.int (i : Int), .ref p])) := s1.trans (same_new hX)
      obtain ⟨d, hd⟩ : ∃ d, DeedAt H p d := by
        rcases Paired.at i hp with ⟨z, _⟩ | ⟨u, v, z1, z2, z3⟩
        · rw [hpi] at z; cases z
        · rw [hpi] at z1; cases z1; exact ⟨v, z3⟩
      refine ⟨X0, _, rfl, SqT.of upd_same, rfl, _, _, rfl, _, _, rfl, rfl, ?_⟩
      refine ⟨_, rfl, rfl, _, rfl, if_f (decide_eq_false fun z => by have q := V.int.inj z; omega) ?_⟩
      refine ⟨_, _, _, _, g_is_deed T, ok_is_deed T, by decide, _, rfl, p, d, rfl, hd.same s2, fun H3 s3 => ⟨_, rfl, if_f rfl ⟨_, _, rfl, s2.trans s3⟩⟩⟩
    · rintro σ H' ⟨_, _, rfl, s1⟩
      exact k H' s1
end
end WK
namespace WK
open PySem PySem.Spec PyProof.Rows L2 He WB
section
variable {P : Program} {w : World} {K : PySem.W.Frag} {mg : Str → Option Value} {base : Heap}
def PlainAt (K : PySem.W.Frag) (H : Hp) (p : Addr) (S : Sta) (O : List Addr) : Prop :=
  ∃ (dp h dh n t : Addr) (ch : V) (A C : Nat → Addr), H p = some (.ins (ga K "Plain") dp [("heap", .ref h)]) ∧ HeapX K H h S (List.range S.made) O dh n t ch A C ∧ p ∉ O
theorem PlainAt.same {H H' : Hp} (s : Same H H') {p : Addr} {S : Sta} {O : List Addr} (x : PlainAt K H p S O) : PlainAt K H' p S O :=
  let ⟨dp, h, dh, n, t, ch, A, C, e, X, q⟩ := x; ⟨dp, h, dh, n, t, ch, A, C, s _ _ e, X.same s, q⟩
def spPlainInit (K : PySem.W.Frag) : Sp := fun vs H Q _ => ∃ (p dp : Addr), vs = [.ref p] ∧ H p = some (.ins (ga K "Plain") dp []) ∧
  ∀ O H', Stp [p] H H' → (∀ a ∈ O, H a = none) → PlainAt K H' p S0 O → Q .non H'
theorem ok_Plain_init (T : Tx w K mg) : DefOk ⟨P, w, K, mg, base⟩ 3 (ma K (ga K "Plain") "__init__") ["self"] (spPlainInit K) := by
  refine DefOk.mk' (f_Plain_init T) sc_Plain_init (fun _ _ _ _ _ _ us hl => match us, hl with | [_], _ => rfl) (fun vs H Q E h => ?_) (fun cdv A outer s H vs Q E hr h => ?_)
  · obtain ⟨p, dp, rfl, _⟩ := h
    rfl
  · obtain ⟨p, dp, rfl, hp, k⟩ := h
    have hu := hu_of hr
    refine ⟨_, (pss_one (ps_fld (pv 0) (pe_mg0 (M := ⟨P, w, K, mg, base⟩) rfl hr rfl) rfl)), ?_⟩
    refine ⟨_, _, _, _, _, g_Heap T, m_Heap T, ok_Heap_init T, by decide, fun h dh hh hdh ne => ?_⟩
    refine ⟨h, dh, rfl, upd_same, fun n t H' A' C' st nn nt X => ⟨rfl, ?_⟩⟩
    have nph : p ≠ h := ne_of_none hp hh
    have npd : p ≠ dh := ne_of_none hp hdh
    have e1 : upd (upd H dh (.own h)) h (.ins (ga K "Heap") dh []) p = some (.ins (ga K "Plain") dp []) := by rw [upd_ne nph, upd_ne npd]; exact hp
    have e2 : H' p = some (.ins (ga K "Plain") dp []) := st _ _ e1 (fun z => nph (List.mem_singleton.mp z))
    have nhn : n ≠ h := fun z => by rw [z, upd_same] at nn; cases nn
    have nht : t ≠ h := fun z => by rw [z, upd_same] at nt; cases nt
    have ndn : n ≠ dh := fun z => by rw [upd_ne nhn, z, upd_same] at nn; cases nn
    have ndt : t ≠ dh := fun z => by rw [upd_ne nht, z, upd_same] at nt; cases nt
    rw [upd_ne nhn, upd_ne ndn] at nn
    rw [upd_ne nht, upd_ne ndt] at nt
    have nO : p ∉ [h, n, t] := fun z => by
      rcases List.mem_cons.mp z with z | z
      · exact nph z
      · rcases List.mem_cons.mp z with z | z
        · rw [z, nn] at hp; cases hp
        · rw [List.mem_singleton.mp z, nt] at hp; cases hp
    refine ⟨_, rfl, p, _, dp, _, rfl, e2, c_Plain T, n_Plain_heap T, (by show 0 < 1000; decide), ?_⟩
    refine k [h, n, t] _ ?_ ?_ ⟨dp, h, dh, n, t, .non, A', C', by rw [upd_same]; rfl, HeapX.off X nO (tup_upd (by rw [e2]; intro xs z; cases z; rfl)), nO⟩
    · intro a o ea na
      have nap : a ≠ p := fun z => na (z ▸ List.mem_singleton.mpr rfl)
      have nah : a ≠ h := ne_of_none ea hh
      have nad : a ≠ dh := ne_of_none ea hdh
      rw [upd_ne nap]
      exact st a o (by rw [upd_ne nah, upd_ne nad]; exact ea) (fun z => nah (List.mem_singleton.mp z))
    · intro a ha
      rcases List.mem_cons.mp ha with rfl | ha
      · exact hh
      · rcases List.mem_cons.mp ha with rfl | ha
        · exact nn
        · rw [List.mem_singleton.mp ha]; exact nt
def spPlainDo (K : PySem.W.Frag) : Sp := fun vs H Q _ => ∃ (p q : Addr) (S : Sta) (O : List Addr) (d : Deed), vs = [.ref p, .ref q] ∧ PlainAt K H p S O ∧ DeedAt H q d ∧ WB.Ok S ∧ S.made ≤ 790 ∧
  ∀ r H' S' O' told chg, StepR S d S' told chg → Stp O H H' → Frs O O' H → TRF H O' H' r told → PlainAt K H' p S' O' → Q r H'
theorem ok_Plain_do (T : Tx w K mg) : DefOk ⟨P, w, K, mg, base⟩ 8 (ma K (ga K "Plain") "do") ["self", "deed"] (spPlainDo K) := by
  refine DefOk.mk' (f_Plain_do T) sc_Plain_do (fun _ _ _ _ _ _ us hl => match us, hl with | [_, _], _ => rfl) (fun vs H Q E h => ?_) (fun cdv A outer s H vs Q E hr h => ?_)
  · obtain ⟨p, q, S, O, d, rfl, _⟩ := h
    rfl
  · obtain ⟨p, q, S, O, d, rfl, hP, hd, ok, hm, k⟩ := h
    have hu := hu_of hr
    refine ⟨_, (pss_cons (ps_expr (pe_cg (M := ⟨P, w, K, mg, base⟩) rfl hr rfl (pa_cons (pe_lst (pa_cons (pv 1) pa_nil)) pa_nil))) (pss_one (ps_ret (pe_cg (M := ⟨P, w, K, mg, base⟩) rfl hr rfl (pa_cons (pe_fld (pv 0) rfl) (pa_cons (pv 1) pa_nil)))))), ?_⟩
    refine ⟨_, _, _, _, g_check_program T, ok_check_program T, by decide, _, rfl, by show 1 ≤ sizeLine; decide, fun l hl => ?_⟩
    have s0 : Same H (upd H l (.lst [.ref q])) := same_new hl
    refine ⟨l, [q], [d], rfl, SqL.of upd_same, .cons (hd.same s0) .nil, by show 1 ≤ 120; decide, fun H1 s1 => ?_⟩
    have s01 := s0.trans s1
    obtain ⟨dp, h, dh, n, t, ch, A', C', e1, X, nO⟩ := hP.same s01
    refine ⟨_, _, _, _, g_act T, ok_act T, by decide, _, rfl, p, _, dp, _, _, rfl, e1, c_Plain T, n_Plain_heap T, rfl, _, rfl, ?_⟩
    refine ⟨h, q, S, List.range S.made, O, dh, n, t, ch, A', C', d, hd.1, rfl, SqT.of (s01 _ _ hd.2), X, ok, Liv.range ok (by omega), fun r H' S' live' O' ch' A2 C2 told chg st hl2 sp fr tr cr X2 => ?_⟩
    rw [range_live (ok.step hd.1 st).2] at hl2
    subst hl2
    have fr0 : Frs O O' H := fun a ha => (fr a ha).imp_right fun z => s01.free z
    have e2 : H' p = some (.ins (ga K "Plain") dp [("heap", .ref h)]) := sp _ _ e1 nO
    refine k r H' S' O' told chg st ((Stp.of_same s01).trans' sp) fr0 (tr.back s01) ⟨dp, h, dh, n, t, ch', A2, C2, e2, X2, fun z => ?_⟩
    rcases fr p z with y | y
    · exact nO y
    · rw [y] at e1; cases e1
def spPlainPhoto (K : PySem.W.Frag) : Sp := fun vs H Q _ => ∃ (p : Addr) (S : Sta) (O : List Addr), vs = [.ref p] ∧ PlainAt K H p S O ∧ WB.Ok S ∧ S.made ≤ 790 ∧
  ∀ q H' ks, Same H H' → H q = none → ks.Pairwise (· < ·) → (∀ k, k ∈ ks ↔ ReachA S k) → PhotoAt H H' q S ks → Q (.ref q) H'
theorem ok_Plain_photo (T : Tx w K mg) : DefOk ⟨P, w, K, mg, base⟩ 6 (ma K (ga K "Plain") "photo") ["self"] (spPlainPhoto K) := by
  refine DefOk.mk' (f_Plain_photo T) sc_Plain_photo (fun _ _ _ _ _ _ us hl => match us, hl with | [_], _ => rfl) (fun vs H Q E h => ?_) (fun cdv A outer s H vs Q E hr h => ?_)
  · obtain ⟨p, S, O, rfl, _⟩ := h
    rfl
  · obtain ⟨p, S, O, rfl, hP, ok, hm, k⟩ := h
    have hu := hu_of hr
    refine ⟨_, (pss_one (ps_ret (pe_md0 (M := ⟨P, w, K, mg, base⟩) rfl hr (pe_fld (pv 0) rfl)))), ?_⟩
    obtain ⟨dp, h, dh, n, t, ch, A', C', e1, X, nO⟩ := id hP
    obtain ⟨vs, f1, _⟩ := id X
    refine ⟨_, rfl, p, _, dp, _, _, rfl, e1, c_Plain T, n_Plain_heap T, rfl, h, _, dh, _, _, _, _, _, rfl, f1, (by kernel_rfl), c_Heap T, t_Heap_photo T, ok_Heap_photo T, by decide, ?_⟩
    have lv := Liv.range ok (show S.made ≤ 800 by omega)
    refine ⟨h, S, List.range S.made, O, rfl, ⟨dh, n, t, ch, A', C', X⟩, ok.names, fun k hk => ok.wf k (List.mem_range.mp hk), by rw [List.length_range]; omega, fun q H' ks s1 nq srt hks ph => ?_⟩
    exact k q H' ks s1 nq srt (fun k => (hks k).trans (reach_all lv k)) ph
end
end WK
/-! What the law's own lists are. -/
namespace WB
open PySem PySem.Spec PyProof.Rows L2 He
theorem ints_lay : ∀ xs : List Int, PyData.canLayAll0 (xs.map PyData.int) = true
  | [] => by simp [PyData.canLayAll0]
  | x :: r => by
    have := ints_lay r
    simp [PyData.canLayAll0, PyData.canLay0, this]
theorem ints_depth : ∀ xs : List Int, PyData.depthAll (xs.map PyData.int) ≤ 1
  | [] => by simp [PyData.depthAll]
  | x :: r => by
    have := ints_depth r
    simp only [List.map_cons, PyData.depthAll, PyData.depth]
    omega
theorem ints_shaped (xs : List Int) : SeqAt.shaped (.list (xs.map PyData.int)) = true := by
  show (PyData.canLay0 (.list (xs.map PyData.int)) && decide (PyData.depth (.list (xs.map PyData.int)) ≤ 64)) = true
  rw [Bool.and_eq_true]
  refine ⟨?_, decide_eq_true ?_⟩
  · simp only [PyData.canLay0]; exact ints_lay xs
  · have := ints_depth xs
    simp only [PyData.depth]; omega
theorem ints_dp {K : PySem.W.Frag} {H : Hp} : ∀ xs : List Int, DpAll K H (xs.map V.int) (xs.map PyData.int)
  | [] => .nil
  | x :: r => .cons (.int x) (ints_dp r)
theorem ints_nil (xs : List Int) : PyData.eqv (.list (xs.map PyData.int)) (.list []) = xs.isEmpty := by
  cases xs with
  | nil => simp [PyData.eqv, PyData.eqvAll]
  | cons x r => simp [PyData.eqv, PyData.eqvAll]
/-- the law's own source of numbers: at h, its script at l -/
def NumAt (H : Hp) (h l : Addr) : Prop := ∃ (m b : Int) (xs : List Int), H h = some (.lst [.int m, .ref l, .int b]) ∧ H l = some (.lst (xs.map V.int)) ∧ h ≠ l ∧ xs.length ≤ 100
theorem NumAt.same {H H' : Hp} {h l : Addr} (s : Same H H') (x : NumAt H h l) : NumAt H' h l :=
  let ⟨m, b, xs, e1, e2, ne, n⟩ := x; ⟨m, b, xs, s _ _ e1, s _ _ e2, ne, n⟩
theorem NumAt.stp {H H' : Hp} {h l : Addr} {O : List Addr} (s : Stp O H H') (h1 : h ∉ O) (h2 : l ∉ O) (x : NumAt H h l) : NumAt H' h l :=
  let ⟨m, b, xs, e1, e2, ne, n⟩ := x; ⟨m, b, xs, s _ _ e1 h1, s _ _ e2 h2, ne, n⟩
end WB
namespace WK
open PySem PySem.Spec PyProof.Rows L2 He WB
section
variable {P : Program} {w : World} {K : PySem.W.Frag} {mg : Str → Option Value} {base : Heap}
def spMix (K : PySem.W.Frag) : Sp := fun vs H Q _ => ∃ (a : Addr) (xs : List Int) (sd : Int), vs = [.ref a, .int sd] ∧ SqL K H a (xs.map V.int) ∧ xs.length ≤ 100 ∧ ∀ h l H', Same H H' → H h = none → H l = none → NumAt H' h l → Q (.ref h) H'
theorem ok__law_mix (T : Tx w K mg) : DefOk ⟨P, w, K, mg, base⟩ 1 (ga K "_law_mix") ["_law_script", "_law_seed"] (spMix K) := by
  refine DefOk.mk' (f__law_mix T) sc__law_mix (fun _ _ _ _ _ _ us hl => match us, hl with | [_, _], _ => rfl) (fun vs H Q E h => ?_) (fun cdv A outer s H vs Q E hr h => ?_)
  · obtain ⟨a, xs, sd, rfl, _⟩ := h
    rfl
  · obtain ⟨a, xs, sd, rfl, ha, hx, k⟩ := h
    have hu := hu_of hr
    refine ⟨_, (pss_cons (ps_set (i := 2) sc__law_mix.nd rfl (Or.inl rfl) (pv 1)) (pss_cons (ps_for PassesOwn.never rfl (pi_list (pv 0)) (pg_name (i := 3) sc__law_mix.nd rfl (Or.inl rfl)) (pss_one (ps_set (i := 2) sc__law_mix.nd rfl (Or.inl rfl) (pe_op op_modN (pe_op op_add (pe_op op_add (pe_op op_mul (pv 2) pe_int) (pe_op op_modN (pv 3) pe_int)) pe_int) pe_int)))) (pss_one (ps_ret (pe_lst (pa_cons (pv 2) (pa_cons (pe_callTy call_list_of (by rfl) (z_list T) (by decide +kernel) (pa_cons (pv 0) pa_nil)) (pa_cons pe_int pa_nil)))))))), ?_⟩
    refine ⟨_, rfl, _, rfl, _, rfl, ⟨_, ha⟩, ?_⟩
    refine for_list (K := K) (a := a) (xs := xs.map V.int) (fun i σ H' => H' = H ∧ ∃ (m : Int) (x3 : Option V), σ = [some (.ref a), some (.int sd), some (.int m), x3]) ⟨rfl, _, _, rfl⟩ (fun i σ H' _ ⟨e, _⟩ => e ▸ ha) ?_ ?_
    · rintro i x σ H1 hi ⟨rfl, m, x3, rfl⟩
      rw [List.getElem?_map] at hi
      obtain ⟨c, hc, rfl⟩ := Option.map_eq_some_iff.mp hi
      exact ⟨_, rfl, _, _, rfl, rfl, .inr ⟨by decide, by decide⟩, _, rfl, _, _, rfl, rfl, (show (2147483629 : Int) ≠ 0 by decide), _, _, rfl, rfl, _, _, rfl, rfl, _, _, rfl, rfl, (show (2147483647 : Int) ≠ 0 by decide), rfl, _, _, rfl⟩
    · rintro σ H1 ⟨rfl, m, x3, rfl⟩
      refine ⟨_, rfl, _, rfl, a, _, rfl, .inl ha, fun l hl => ⟨by show 3 ≤ sizeLine; decide, fun h hh => ?_⟩⟩
      have nhl : h ≠ l := fun z => by rw [z, upd_same] at hh; cases hh
      have hh0 : H1 h = none := by rw [upd_ne nhl] at hh; exact hh
      exact k h l _ (fun b o e => by rw [upd_ne (ne_of_none e hh0), upd_ne (ne_of_none e hl)]; exact e) hh0 hl ⟨m, 0, xs, upd_same, by rw [upd_ne nhl.symm]; exact upd_same, nhl, hx⟩
theorem at_3 {α : Type} {x y z : α} : atI [x, y, z] 0 = some x ∧ atI [x, y, z] 1 = some y ∧ atI [x, y, z] 2 = some z := ⟨rfl, rfl, rfl⟩
theorem fmod_in {i n : Int} (h : 0 < n) : 0 ≤ i.fmod n ∧ i.fmod n < n := ⟨Int.fmod_nonneg_of_pos i h, Int.fmod_lt_of_pos i h⟩
def spNext (K : PySem.W.Frag) : Sp := fun vs H Q _ => ∃ (h l : Addr) (many : Int), vs = [.ref h, .int many] ∧ NumAt H h l ∧ 0 < many ∧ many ≤ 1000 ∧ ∀ r H', 0 ≤ r → r < many → Stp [h, l] H H' → NumAt H' h l → Q (.int r) H'
theorem ok__law_next (T : Tx w K mg) : DefOk ⟨P, w, K, mg, base⟩ 1 (ga K "_law_next") ["_law_h", "_law_many"] (spNext K) := by
  refine DefOk.mk' (f__law_next T) sc__law_next (fun _ _ _ _ _ _ us hl => match us, hl with | [_, _], _ => rfl) (fun vs H Q E h => ?_) (fun cdv A outer s H vs Q E hr h => ?_)
  · obtain ⟨h, l, many, rfl, _⟩ := h
    rfl
  · obtain ⟨h, l, many, rfl, ⟨m, b, xs, e1, e2, ne, hx⟩, h0, h1, k⟩ := h
    have hu := hu_of hr
    refine ⟨_, (pss_cons (ps_set (i := 2) sc__law_next.nd rfl (Or.inl rfl) (pe_op op_modN (pe_ix ix_list (pv 0) pe_int (fun _ _ => rfl)) (pe_callB (call_max2 rfl) (by rfl) (z_max T) (by decide +kernel) (pa_cons pe_int (pa_cons (pe_callB call_len_seq (by rfl) (z_len T) PySem.boot_len (pa_cons (pe_ix ix_list (pv 0) pe_int (fun _ _ => rfl)) pa_nil)) pa_nil))))) (pss_cons (ps_set (i := 3) sc__law_next.nd rfl (Or.inl rfl) (pe_ifExp (pt_cmpR (op_neD hr.units) (pe_ix ix_list (pv 0) pe_int (fun _ _ => rfl)) (pe_lst pa_nil) (nomark _)) (pe_ix ix_list (pe_ix ix_list (pv 0) pe_int (fun _ _ => rfl)) (pv 2) (fun _ _ => rfl)) pe_int)) (pss_cons (ps_if (pt_cmpR op_ge (pv 3) (pe_op op_pow pe_int pe_int) (nomark _)) (pss_cons (ps_asg (pe_op op_fdivN (pv 3) (pv 1)) (pg_sub (pe_ix ix_list (pv 0) pe_int (fun _ _ => rfl)) (pv 2) set_list)) (pss_one (ps_ret (pe_op op_modN (pv 3) (pv 1))))) pss_nil) (pss_cons (ps_asg (pe_op op_modN (pe_op op_add (pe_op op_add (pe_op op_mul (pe_ix ix_list (pv 0) pe_int (fun _ _ => rfl)) pe_int) (pe_op op_mul (pv 3) pe_int)) pe_int) pe_int) (pg_sub (pv 0) pe_int set_list)) (pss_cons (ps_asg (pe_op op_add (pe_ix ix_list (pv 0) pe_int (fun _ _ => rfl)) pe_int) (pg_sub (pv 0) pe_int set_list)) (pss_one (ps_ret (pe_op op_modN (pe_op op_fdivN (pe_ix ix_list (pv 0) pe_int (fun _ _ => rfl)) pe_int) (pv 1))))))))), ?_⟩
    have i0 : atI [V.int m, .ref l, .int b] 0 = some (.int m) := rfl
    have i1 : atI [V.int m, .ref l, .int b] 1 = some (.ref l) := rfl
    have i2 : atI [V.int m, .ref l, .int b] 2 = some (.int b) := rfl
    have sh := SqL.of (K := K) e1
    have sl := SqL.of (K := K) e2
    refine ⟨_, rfl, h, _, 2, _, rfl, rfl, sh, i2, _, rfl, h, _, 1, _, rfl, rfl, sh, i1, l, _, rfl, .inl sl, _, _, rfl, _, _, rfl, rfl, ?_, ?_⟩
    · show (if ((List.map V.int xs).length : Int) > 1 then ((List.map V.int xs).length : Int) else 1) ≠ 0
      split <;> omega
    generalize hN : (if ((List.map V.int xs).length : Int) > 1 then ((List.map V.int xs).length : Int) else 1) = N
    have N0 : 0 < N := by rw [← hN]; split <;> omega
    have Nl : xs ≠ [] → N = xs.length := fun hne => by
      have : 0 < xs.length := List.length_pos_iff.mpr hne
      rw [← hN, List.length_map]; split <;> omega
    obtain ⟨t0, t1⟩ := fmod_in (i := b) N0
    obtain ⟨t, ht⟩ : ∃ t, b.fmod N = t := ⟨_, rfl⟩
    rw [ht] at t0 t1
    refine ⟨_, rfl, h, _, 1, _, rfl, rfl, sh, i1, by show 0 ≤ sizeLine; decide, fun Z hZ => ?_⟩
    have s1 : Same H (upd H Z (.lst [])) := same_new hZ
    have g1 := s1 _ _ e1
    have g2 := s1 _ _ e2
    have sh1 := SqL.of (K := K) g1
    have sl1 := SqL.of (K := K) g2
    refine ⟨_, _, .lst sl1 (ints_dp xs), .lst (SqL.of upd_same) .nil, ints_shaped xs, ints_shaped [], _, rfl, ?_⟩
    rw [ints_nil]
    by_cases hne : xs = []
    · subst hne
      refine if_f rfl ⟨_, rfl, _, _, rfl, rfl, ⟨by decide, by decide, by decide⟩, _, _, rfl, rfl, _, rfl, if_f (by decide +kernel) ?_⟩
      refine ⟨_, rfl, h, _, 0, _, rfl, rfl, sh1, i0, _, _, rfl, rfl, .inr ⟨by decide, by decide⟩, _, rfl, _, _, rfl, rfl, .inr ⟨by decide, by decide⟩, _, _, rfl, rfl, _, _, rfl, rfl, _, _, rfl, rfl, (show (2147483647 : Int) ≠ 0 by decide), _, rfl, h, _, 0, 0, rfl, rfl, g1, rfl, ?_⟩
      refine ⟨_, rfl, h, _, 2, _, rfl, rfl, SqL.of upd_same, rfl, _, _, rfl, rfl, _, rfl, h, _, 2, 2, rfl, rfl, upd_same, rfl, ?_⟩
      refine ⟨_, rfl, h, _, 0, _, rfl, rfl, SqL.of upd_same, rfl, _, _, rfl, rfl, ⟨by decide, by decide⟩, _, rfl, _, _, rfl, rfl, (show many ≠ 0 by omega), ?_⟩
      exact k _ _ (fmod_in h0).1 (fmod_in h0).2 (((Stp.of_same s1).trans' (Stp.upd (.inl List.mem_cons_self))).trans' (Stp.upd (.inl List.mem_cons_self))) ⟨_, b + 1, _, upd_same, by rw [upd_ne ne.symm, upd_ne ne.symm]; exact g2, ne, hx⟩
    · have lt : t.toNat < xs.length := by have := Nl hne; omega
      obtain ⟨c, hc⟩ : ∃ c, xs[t.toNat]? = some c := ⟨_, List.getElem?_eq_getElem lt⟩
      have et : ((t.toNat : Nat) : Int) = t := by omega
      have hcv : atI (List.map V.int xs) t = some (V.int c) := by
        rw [← et]; exact atI_nat (by rw [List.getElem?_map, hc]; rfl)
      have hix : ixN (List.map V.int xs).length t = some t.toNat := by
        rw [List.length_map]; unfold ixN; rw [if_pos t0, if_pos (by omega)]
      refine if_t (by cases xs with | nil => exact absurd rfl hne | cons x r => rfl) ⟨_, rfl, h, _, 1, _, rfl, rfl, sh1, i1, _, rfl, l, _, t, _, rfl, (by rw [← ht]), sl1, hcv, ?_⟩
      refine ⟨_, rfl, _, _, rfl, rfl, ⟨by decide, by decide, by decide⟩, _, _, rfl, rfl, _, rfl, ?_⟩
      cases hb : decide ((10 : Int) ^ (18 : Int).toNat ≤ c) with
      | true =>
        refine if_t rfl ?_
        refine ⟨_, rfl, _, rfl, _, _, rfl, rfl, ⟨by omega, by omega⟩, _, rfl, h, _, 1, _, rfl, rfl, sh1, i1, _, rfl, l, _, t, t.toNat, rfl, (by rw [← ht]), g2, hix, ?_⟩
        refine ⟨_, rfl, _, rfl, _, _, rfl, rfl, (show many ≠ 0 by omega), ?_⟩
        refine k _ _ (fmod_in h0).1 (fmod_in h0).2 ((Stp.of_same s1).trans' (Stp.upd (.inl (List.mem_cons_of_mem _ List.mem_cons_self)))) ⟨m, b, xs.set t.toNat (c.fdiv many), by rw [upd_ne ne]; exact g1, by rw [upd_same, List.map_set], ne, by rw [List.length_set]; exact hx⟩
      | false =>
        refine if_f rfl ?_
        refine ⟨_, rfl, h, _, 0, _, rfl, rfl, sh1, i0, _, _, rfl, rfl, .inr ⟨by decide, by decide⟩, _, rfl, _, _, rfl, rfl, .inr ⟨by decide, by decide⟩, _, _, rfl, rfl, _, _, rfl, rfl, _, _, rfl, rfl, (show (2147483647 : Int) ≠ 0 by decide), _, rfl, h, _, 0, 0, rfl, rfl, g1, rfl, ?_⟩
        refine ⟨_, rfl, h, _, 2, _, rfl, rfl, SqL.of upd_same, rfl, _, _, rfl, rfl, _, rfl, h, _, 2, 2, rfl, rfl, upd_same, rfl, ?_⟩
        refine ⟨_, rfl, h, _, 0, _, rfl, rfl, SqL.of upd_same, rfl, _, _, rfl, rfl, ⟨by decide, by decide⟩, _, rfl, _, _, rfl, rfl, (show many ≠ 0 by omega), ?_⟩
        exact k _ _ (fmod_in h0).1 (fmod_in h0).2 (((Stp.of_same s1).trans' (Stp.upd (.inl List.mem_cons_self))).trans' (Stp.upd (.inl List.mem_cons_self))) ⟨_, b + 1, _, upd_same, by rw [upd_ne ne.symm, upd_ne ne.symm]; exact g2, ne, hx⟩
end
end WK
/-! The law's own heap: the same state, in dicts. -/
namespace WB
open PySem PySem.Spec PyProof.Rows L2 He
def lstS : Lst → Str
  | .no => "none"
  | .due => "due"
  | .done => "done"
def Body.lsees : Body → V
  | .wat s _ => .int (s : Int)
  | _ => .non
def Body.lgone : Body → Bool
  | .wat _ g => g
  | _ => false
/-- a thing as the law keeps it, its parts at c -/
def thD (c : Addr) (t : Th) : List (Key × V) :=
  [(.inr "kind", .str t.body.kind), (.inr "held", .ref c), (.inr "sees", t.body.lsees), (.inr "gone", .bl t.body.lgone), (.inr "last", .str (lstS t.last)), (.inr "goal", t.goal)]
def HeldAt (H : Hp) (c : Addr) : Body → Prop
  | .dic _ kvs => ∃ vs, H c = some (.dK vs) ∧ KVR H vs kvs
  | .row xs => ∃ vs, H c = some (.lst vs) ∧ LVR H vs xs
  | .wat _ _ => H c = some (.dK [])
theorem HeldAt.some {H : Hp} {c : Addr} {b : Body} (h : HeldAt H c b) : ∃ o, H c = some o ∧ still o = false ∧ ∀ ps, o ≠ .tbl ps := by
  cases b with
  | dic r kvs => obtain ⟨vs, e, _⟩ := h; exact ⟨_, e, rfl, fun xs z => by cases z⟩
  | row xs => obtain ⟨vs, e, _⟩ := h; exact ⟨_, e, rfl, fun xs z => by cases z⟩
  | wat s g => exact ⟨_, h, rfl, fun xs z => by cases z⟩
theorem HeldAt.mono {H H' : Hp} {c : Addr} {b : Body} (tp : Tup H H') (e : H' c = H c) (h : HeldAt H c b) : HeldAt H' c b := by
  cases b with
  | dic r kvs => obtain ⟨vs, p, q⟩ := h; exact ⟨vs, e.trans p, KVR.mono tp q⟩
  | row xs => obtain ⟨vs, p, q⟩ := h; exact ⟨vs, e.trans p, LVR.mono tp q⟩
  | wat s g => exact e.trans h
structure LAp (made : Nat) (m n l : Addr) (A C : Nat → Addr) : Prop where
  mn : m ≠ n
  ml : m ≠ l
  nl : n ≠ l
  am : ∀ k < made, A k ≠ m
  an : ∀ k < made, A k ≠ n
  al : ∀ k < made, A k ≠ l
  cm : ∀ k < made, C k ≠ m
  cn : ∀ k < made, C k ≠ n
  cl : ∀ k < made, C k ≠ l
  aa : ∀ i < made, ∀ j < made, i ≠ j → A i ≠ A j
  cc : ∀ i < made, ∀ j < made, i ≠ j → C i ≠ C j
  ac : ∀ i < made, ∀ j < made, A i ≠ C j
/-- where the table of the def _law_parts stands, and the name of its lambda -/
def tabP : Addr := 0
def lamQ : Str := "_law_parts.<locals>.<lambda>"
theorem TabS_moved {H H' : Hp} {P : Addr} {q : Str} (t : LamX.TabS H P q) (tp : Tup H H') (e : H' P = H P) : LamX.TabS H' P q := by
  obtain ⟨ps, h1, h2, h3⟩ := t
  refine ⟨ps, e.trans h1, h2, fun pos cv hc => ?_⟩
  obtain ⟨c, e1, e2⟩ := h3 pos cv hc
  exact ⟨c, e1, tp.ext _ _ e2⟩
structure LOw (H : Hp) (made : Nat) (O : List Addr) (m n l : Addr) (A C : Nat → Addr) : Prop where
  m : m ∈ O
  n : n ∈ O
  l : l ∈ O
  a : ∀ k < made, A k ∈ O
  c : ∀ k < made, C k ∈ O
  tr : ∀ a ∈ O, H a ≠ none
  tO : tabP ∈ O
  tb : LamX.TabS H tabP lamQ
theorem LOw.ntab {H : Hp} {made : Nat} {O : List Addr} {m n l : Addr} {A C : Nat → Addr} (o : LOw H made O m n l A C) {a : Addr} {u : HO} (h : H a = some u) (hu : ∀ ps, u ≠ .tbl ps) : tabP ≠ a := fun z => by
  obtain ⟨ps, h1, _⟩ := o.tb
  rw [z, h] at h1
  exact hu ps (Option.some.inj h1)
theorem LOw.put {H : Hp} {made : Nat} {O : List Addr} {m n l : Addr} {A C : Nat → Addr} (o : LOw H made O m n l A C) {a : Addr} {u x : HO} (h : H a = some u) (tp : Tup H (upd H a x)) (hu : ∀ ps, u ≠ .tbl ps) : LOw (upd H a x) made O m n l A C :=
  ⟨o.m, o.n, o.l, o.a, o.c, fun a ha => upd_some (o.tr a ha), o.tO, TabS_moved o.tb tp (upd_ne (o.ntab h hu))⟩
def thL (A : Nat → Addr) (made : Nat) : List V := (List.range made).map fun k => V.ref (A k)
def LawX (H : Hp) (m : Addr) (S : Sta) (O : List Addr) (n l : Addr) (A C : Nat → Addr) : Prop :=
  ∃ vs, H m = some (.dK [(.inr "names", .ref n), (.inr "things", .ref l)]) ∧ H n = some (.dK vs) ∧ KVR H vs S.names ∧ H l = some (.lst (thL A S.made)) ∧
    (∀ k < S.made, H (A k) = some (.dK (thD (C k) (S.th k))) ∧ HeldAt H (C k) (S.th k).body) ∧ LAp S.made m n l A C ∧ LOw H S.made O m n l A C
section
variable {H H' : Hp} {m n l : Addr} {S : Sta} {O : List Addr} {A C : Nat → Addr}
theorem LawX.keep (X : LawX H m S O n l A C) (tp : Tup H H') (k : ∀ a ∈ O, H' a = H a) : LawX H' m S O n l A C := by
  obtain ⟨vs, e1, e2, e3, e4, e5, e6, e7⟩ := X
  refine ⟨vs, (k _ e7.m).trans e1, (k _ e7.n).trans e2, KVR.mono tp e3, (k _ e7.l).trans e4, fun j hj => ⟨(k _ (e7.a j hj)).trans (e5 j hj).1, (e5 j hj).2.mono tp (k _ (e7.c j hj))⟩, e6, ⟨e7.m, e7.n, e7.l, e7.a, e7.c, fun a ha => by rw [k a ha]; exact e7.tr a ha, e7.tO, TabS_moved e7.tb tp (k _ e7.tO)⟩⟩
theorem LawX.same (s : Same H H') (X : LawX H m S O n l A C) : LawX H' m S O n l A C := by
  obtain ⟨_, _, _, _, _, _, _, e7⟩ := id X
  refine X.keep (Same.tup s) fun a ha => ?_
  cases e : H a with
  | none => exact absurd e (e7.tr a ha)
  | some o => exact s a o e
/-- what others own changes -/
theorem LawX.stp {O2 : List Addr} (s : Stp O2 H H') (tp : Tup H H') (d : ∀ a ∈ O, a ∉ O2) (X : LawX H m S O n l A C) : LawX H' m S O n l A C := by
  obtain ⟨_, _, _, _, _, _, _, e7⟩ := id X
  refine X.keep tp fun a ha => ?_
  cases e : H a with
  | none => exact absurd e (e7.tr a ha)
  | some o => exact s a o e (d a ha)
theorem LawX.name {vs' ns : List (Key × V)} (X : LawX H m S O n l A C) (hr : KVR (upd H n (.dK vs')) vs' ns) : LawX (upd H n (.dK vs')) m { S with names := ns } O n l A C := by
  obtain ⟨vs, e1, e2, e3, e4, e5, e6, e7⟩ := X
  have tp : Tup H (upd H n (.dK vs')) := tup_upd (by rw [e2]; intro xs z; cases z; rfl)
  exact ⟨vs', by rw [upd_ne e6.mn]; exact e1, upd_same, hr, by rw [upd_ne e6.nl.symm]; exact e4, fun j hj => ⟨by rw [upd_ne (e6.an j hj)]; exact (e5 j hj).1, (e5 j hj).2.mono tp (upd_ne (e6.cn j hj))⟩, e6, e7.put e2 tp (by intro ps z; cases z)⟩
/-- a thing's own words change -/
theorem LawX.attr {k : Nat} {x : Th} (X : LawX H m S O n l A C) (hk : k < S.made) (eb : HeldAt H (C k) x.body) : LawX (upd H (A k) (.dK (thD (C k) x))) m (S.setTh k x) O n l A C := by
  obtain ⟨vs, e1, e2, e3, e4, e5, e6, e7⟩ := X
  have tp : Tup H (upd H (A k) (.dK (thD (C k) x))) := tup_upd (by rw [(e5 k hk).1]; intro xs z; cases z; rfl)
  refine ⟨vs, by rw [upd_ne (e6.am k hk).symm]; exact e1, by rw [upd_ne (e6.an k hk).symm]; exact e2, KVR.mono tp e3, by rw [upd_ne (e6.al k hk).symm]; exact e4, fun j hj => ?_, e6, e7.put (e5 k hk).1 tp (by intro ps z; cases z)⟩
  by_cases e : j = k
  · subst e; rw [setTh_eq]
    exact ⟨upd_same, eb.mono tp (upd_ne (e6.ac j hj j hj).symm)⟩
  · rw [setTh_ne e]
    exact ⟨by rw [upd_ne (e6.aa j hj k hk e)]; exact (e5 j hj).1, (e5 j hj).2.mono tp (upd_ne (e6.ac k hk j hj).symm)⟩
/-- a thing's parts change -/
theorem LawX.cell {k : Nat} {o : HO} {b : Body} (X : LawX H m S O n l A C) (hk : k < S.made) (eb : HeldAt (upd H (C k) o) (C k) b) (e1 : b.kind = (S.th k).body.kind) (e2 : b.lsees = (S.th k).body.lsees) (e3 : b.lgone = (S.th k).body.lgone) :
    LawX (upd H (C k) o) m (S.setTh k { S.th k with body := b }) O n l A C := by
  obtain ⟨vs, f1, f2, f3, f4, f5, f6, f7⟩ := X
  obtain ⟨o0, c1, c2, c3⟩ := (f5 k hk).2.some
  have tp : Tup H (upd H (C k) o) := tup_upd (by rw [c1]; intro xs z; cases z; exact c2)
  refine ⟨vs, by rw [upd_ne (f6.cm k hk).symm]; exact f1, by rw [upd_ne (f6.cn k hk).symm]; exact f2, KVR.mono tp f3, by rw [upd_ne (f6.cl k hk).symm]; exact f4, fun j hj => ?_, f6, f7.put c1 tp c3⟩
  by_cases e : j = k
  · subst e; rw [setTh_eq]
    refine ⟨?_, eb⟩
    rw [upd_ne (f6.ac j hj j hj), (f5 j hj).1]
    show some (HO.dK (thD (C j) (S.th j))) = some (HO.dK (thD (C j) { S.th j with body := b }))
    unfold thD
    rw [e1, e2, e3]
  · rw [setTh_ne e]
    exact ⟨by rw [upd_ne (f6.ac j hj k hk)]; exact (f5 j hj).1, (f5 j hj).2.mono tp (upd_ne (f6.cc j hj k hk e))⟩
theorem LawX.congr {S' : Sta} (X : LawX H m S O n l A C) (hn : S'.names = S.names) (hm : S'.made = S.made) (ht : ∀ k < S.made, S'.th k = S.th k) : LawX H m S' O n l A C := by
  obtain ⟨vs, e1, e2, e3, e4, e5, e6, e7⟩ := X
  exact ⟨vs, e1, e2, by rw [hn]; exact e3, by rw [hm]; exact e4, fun k hk => by rw [hm] at hk; rw [ht k hk]; exact e5 k hk, by rw [hm]; exact e6, by rw [hm]; exact e7⟩
theorem thL_add {a : Addr} {made : Nat} : thL (addF made a A) (made + 1) = thL A made ++ [.ref a] := by
  unfold thL
  rw [List.range_succ, List.map_append]
  congr 1
  · refine List.map_congr_left fun k hk => ?_
    rw [addF_ne (Nat.ne_of_lt (List.mem_range.mp hk))]
  · show [V.ref (addF made a A made)] = _
    rw [addF_eq]
/-- a new thing -/
theorem LawX.add {a c : Addr} {x : Th} (X : LawX H m S O n l A C) (ha : H a = some (.dK (thD c x))) (hc : HeldAt H c x.body) (na : a ∉ O) (nc : c ∉ O) (ac : a ≠ c) :
    LawX (upd H l (.lst (thL A S.made ++ [.ref a]))) m (S.add x) (a :: c :: O) n l (addF S.made a A) (addF S.made c C) := by
  obtain ⟨vs, e1, e2, e3, e4, e5, e6, e7⟩ := X
  have tp : Tup H (upd H l (.lst (thL A S.made ++ [.ref a]))) := tup_upd (by rw [e4]; intro xs z; cases z; rfl)
  have nl : ∀ {b : Addr}, b ∉ O → b ≠ l := fun hb e => hb (e ▸ e7.l)
  have nO : ∀ {b d : Addr}, b ∈ O → d ∉ O → b ≠ d := fun hb hd e => hd (e ▸ hb)
  obtain ⟨o0, c1, _, _⟩ := hc.some
  have lt : ∀ {k : Nat}, k < S.made + 1 → k ≠ S.made → k < S.made := fun h1 h2 => by omega
  refine ⟨vs, by rw [upd_ne e6.ml]; exact e1, by rw [upd_ne e6.nl]; exact e2, KVR.mono tp e3, by rw [upd_same]; show _ = some (HO.lst (thL _ (S.made + 1))); rw [thL_add], fun k hk => ?_, ?_, ?_⟩
  · by_cases e : k = S.made
    · subst e
      rw [addF_eq, addF_eq]
      show upd H l _ a = some (.dK (thD c (if S.made = S.made then x else S.th S.made))) ∧ HeldAt _ c (if S.made = S.made then x else S.th S.made).body
      rw [if_pos rfl]
      exact ⟨by rw [upd_ne (nl na)]; exact ha, hc.mono tp (upd_ne (nl nc))⟩
    · rw [addF_ne e, addF_ne e]
      have hk' := lt hk e
      show upd H l _ (A k) = some (.dK (thD (C k) (if k = S.made then x else S.th k))) ∧ HeldAt _ (C k) (if k = S.made then x else S.th k).body
      rw [if_neg e]
      exact ⟨by rw [upd_ne (e6.al k hk')]; exact (e5 k hk').1, (e5 k hk').2.mono tp (upd_ne (e6.cl k hk'))⟩
  · have ga : ∀ k < S.made + 1, addF S.made a A k = a ∧ k = S.made ∨ addF S.made a A k = A k ∧ k < S.made := fun k hk => by
      by_cases e : k = S.made
      · subst e; exact .inl ⟨addF_eq, rfl⟩
      · exact .inr ⟨addF_ne e, lt hk e⟩
    have gc : ∀ k < S.made + 1, addF S.made c C k = c ∧ k = S.made ∨ addF S.made c C k = C k ∧ k < S.made := fun k hk => by
      by_cases e : k = S.made
      · subst e; exact .inl ⟨addF_eq, rfl⟩
      · exact .inr ⟨addF_ne e, lt hk e⟩
    refine ⟨e6.mn, e6.ml, e6.nl, fun k hk => ?_, fun k hk => ?_, fun k hk => ?_, fun k hk => ?_, fun k hk => ?_, fun k hk => ?_, fun i hi j hj ij => ?_, fun i hi j hj ij => ?_, fun i hi j hj => ?_⟩
    · rcases ga k hk with ⟨e, _⟩ | ⟨e, h⟩ <;> rw [e]
      · exact (nO e7.m na).symm
      · exact e6.am k h
    · rcases ga k hk with ⟨e, _⟩ | ⟨e, h⟩ <;> rw [e]
      · exact (nO e7.n na).symm
      · exact e6.an k h
    · rcases ga k hk with ⟨e, _⟩ | ⟨e, h⟩ <;> rw [e]
      · exact (nO e7.l na).symm
      · exact e6.al k h
    · rcases gc k hk with ⟨e, _⟩ | ⟨e, h⟩ <;> rw [e]
      · exact (nO e7.m nc).symm
      · exact e6.cm k h
    · rcases gc k hk with ⟨e, _⟩ | ⟨e, h⟩ <;> rw [e]
      · exact (nO e7.n nc).symm
      · exact e6.cn k h
    · rcases gc k hk with ⟨e, _⟩ | ⟨e, h⟩ <;> rw [e]
      · exact (nO e7.l nc).symm
      · exact e6.cl k h
    · rcases ga i hi with ⟨e, q⟩ | ⟨e, h⟩ <;> rcases ga j hj with ⟨e', q'⟩ | ⟨e', h'⟩ <;> rw [e, e']
      · exact absurd (q.trans q'.symm) ij
      · exact (nO (e7.a j h') na).symm
      · exact nO (e7.a i h) na
      · exact e6.aa i h j h' ij
    · rcases gc i hi with ⟨e, q⟩ | ⟨e, h⟩ <;> rcases gc j hj with ⟨e', q'⟩ | ⟨e', h'⟩ <;> rw [e, e']
      · exact absurd (q.trans q'.symm) ij
      · exact (nO (e7.c j h') nc).symm
      · exact nO (e7.c i h) nc
      · exact e6.cc i h j h' ij
    · rcases ga i hi with ⟨e, q⟩ | ⟨e, h⟩ <;> rcases gc j hj with ⟨e', q'⟩ | ⟨e', h'⟩ <;> rw [e, e']
      · exact ac
      · exact (nO (e7.c j h') na).symm
      · exact nO (e7.a i h) nc
      · exact e6.ac i h j h'
  · refine ⟨List.mem_cons_of_mem _ (List.mem_cons_of_mem _ e7.m), List.mem_cons_of_mem _ (List.mem_cons_of_mem _ e7.n), List.mem_cons_of_mem _ (List.mem_cons_of_mem _ e7.l), fun k hk => ?_, fun k hk => ?_, fun b hb => ?_, List.mem_cons_of_mem _ (List.mem_cons_of_mem _ e7.tO), TabS_moved e7.tb tp (upd_ne (e7.ntab e4 (by intro ps z; cases z)))⟩
    · by_cases e : k = S.made
      · subst e; rw [addF_eq]; exact List.mem_cons_self
      · rw [addF_ne e]; exact List.mem_cons_of_mem _ (List.mem_cons_of_mem _ (e7.a k (lt hk e)))
    · by_cases e : k = S.made
      · subst e; rw [addF_eq]; exact List.mem_cons_of_mem _ List.mem_cons_self
      · rw [addF_ne e]; exact List.mem_cons_of_mem _ (List.mem_cons_of_mem _ (e7.c k (lt hk e)))
    · refine upd_some ?_
      rcases List.mem_cons.mp hb with rfl | hb
      · rw [ha]; intro z; cases z
      · rcases List.mem_cons.mp hb with rfl | hb
        · rw [c1]; intro z; cases z
        · exact e7.tr b hb
end
end WB
/-! Several readings of one expression; list(range). -/
namespace WB
open PySem PySem.Spec PyProof.Rows L2 He
section
variable {X : Cx} {e : Expr} {s : Stmt} {t1 t2 : TE}
theorem pe_or2 (h1 : PE X e t1) (h2 : PE X e t2) : PE X e (fun σ H Q => t1 σ H Q ∨ t2 σ H Q) := by
  refine ⟨fun pins s σ H Q I h => ?_⟩
  rcases h with h | h
  · exact h1.run pins s σ H Q I h
  · exact h2.run pins s σ H Q I h
theorem ps_or2 {u1 u2 : TS} (h1 : PS X s u1) (h2 : PS X s u2) : PS X s (fun D σ H => u1 D σ H ∨ u2 D σ H) := by
  refine ⟨fun pins s σ H D I h => ?_⟩
  rcases h with h | h
  · exact h1.run pins s σ H D I h
  · exact h2.run pins s σ H D I h
theorem call_lenLD : CallR X (.builtin "len") (fun xs H Q => (∃ a kvs, xs = [V.ref a] ∧ H a = some (.dK kvs) ∧ Q (.int kvs.length) H) ∨ ∃ p ys, xs = [.ref p] ∧ (SqL X.K H p ys ∨ SqT X.K H p ys) ∧ Q (.int ys.length) H) := CallR.or call_lenD call_len_seq
theorem vals_by : ∀ {xs : List V} {us : List Value}, xs.length = us.length → (∀ (i : Nat) (x : V) (u : Value), xs[i]? = some x → us[i]? = some u → RelV x u) → Vals xs us
  | [], [], _, _ => .nil
  | x :: xs, u :: us, hl, h => .cons (h 0 x u rfl rfl) (vals_by (Nat.succ.inj hl) fun i y v e1 e2 => h (i + 1) y v e1 e2)
theorem rng_vals {n : Nat} {acc : Array Value} (h : ItemsOf (fun i v => ∃ t, v = .int ((0 : Int) + (i : Int) * 1) t) acc n) : Vals ((List.range n).map fun (i : Nat) => V.int (i : Int)) acc.toList := by
  refine vals_by (by rw [List.length_map, List.length_range, Array.length_toList]; exact h.1.symm) fun i x u e1 e2 => ?_
  rw [List.getElem?_map] at e1
  obtain ⟨j, hj, rfl⟩ := Option.map_eq_some_iff.mp e1
  have : j = i := by
    obtain ⟨h1, h2⟩ := List.getElem?_eq_some_iff.mp hj
    rw [List.getElem_range] at h2; exact h2.symm
  subst this
  obtain ⟨t, rfl⟩ := h.2 j u (by rw [← Array.getElem?_toList]; exact e2)
  exact ⟨t, by rw [Int.zero_add, Int.mul_one]⟩
theorem call_list_rng (hc : X.calm = true) : CallR X (.type "list") (fun xs H Q => ∃ (p : Addr) (n : Nat), xs = [.ref p] ∧ H p = some (.rng 0 (n : Int)) ∧ n ≤ 1000 ∧ ∀ l, H l = none → Q (.ref l) (upd H l (.lst ((List.range n).map fun (i : Nat) => V.int (i : Int))))) := by
  intro pins s σ H xs us Q I r h
  obtain ⟨p, n, rfl, hp, hn, q⟩ := h
  obtain ⟨u, rfl, rx⟩ := vals1 r
  cases rx
  obtain ⟨t, v, w, ho⟩ := I.hok p _ hp
  have hs : Builtin.Range.rangeSize 0 (n : Int) 1 = (n : Int) := by
    rw [rangeSize_one]; split <;> omega
  refine call_list_range (I.ok.hd hc) ho (small_one (by decide) (by decide) (by omega) (by omega)) hs (by omega) fun h' tk acc c kp e hi => ?_
  have rv := rng_vals hi
  have I0 : Inv X pins σ H { s with heap := h', toks := tk } := I.kept kp
  refine ⟨.ref s.heap.objs.size, upd H s.heap.objs.size (.lst ((List.range n).map fun (i : Nat) => V.int (i : Int))), I.laid (t' := tk) kp (Nat.le_refl _) ?_, rfl, q _ (I.hok.fresh (Nat.le_refl _))⟩
  refine ⟨Nat.le_trans (show _ ≤ 1000 by rw [List.length_map, List.length_range]; exact hn) (by decide), acc.toList, c, rv, ?_⟩
  rw [Array.toArray_toList]
  exact e
end
end WB
namespace WK
open PySem PySem.Spec PyProof.Rows L2 He WB
section
variable {P : Program} {w : World} {K : PySem.W.Frag} {mg : Str → Option Value} {base : Heap}
theorem LVR.len {H : Hp} {vs xs : List V} (h : LVR H vs xs) : vs.length = xs.length := Paired.length h
theorem thL_at {A : Nat → Addr} {made j : Nat} (h : j < made) : atI (thL A made) (j : Int) = some (.ref (A j)) := atI_nat (by unfold thL; rw [List.getElem?_map, List.getElem?_range h]; rfl)
def spLThing : Sp := fun vs H Q _ => ∃ (m : Addr) (S : Sta) (O : List Addr) (n l : Addr) (A C : Nat → Addr) (x : Str), vs = [.ref m, .str x] ∧ LawX H m S O n l A C ∧ WB.Ok S ∧ x ∈ nmS ∧
  (∀ j, S.look x = .ref j → Q (.ref (A j)) H) ∧ ((∀ j, S.look x ≠ .ref j) → Q .non H)
theorem flat_k (k : Key) : flatV (kV k) = true := by cases k <;> rfl
theorem nats_flat : ∀ xs : List Nat, (xs.map fun (i : Nat) => V.int (i : Int)).all flatV = true
  | [] => rfl
  | _ :: r => nats_flat r
theorem nat_in {n : Nat} {k : Key} : inV (kV k) ((List.range n).map fun (i : Nat) => V.int (i : Int)) = inR 0 n k := by
  unfold inV
  rw [List.any_map]
  cases k with
  | inr z => exact List.any_eq_false.mpr fun x _ => by show ¬ (false = true); decide
  | inl i =>
    show ((List.range n).any fun (j : Nat) => ((j : Int) == i)) = decide (0 ≤ i ∧ i < n)
    by_cases h : 0 ≤ i ∧ i < n
    · rw [decide_eq_true h]
      exact List.any_eq_true.mpr ⟨i.toNat, List.mem_range.mpr (by omega), by rw [beq_iff_eq]; omega⟩
    · rw [decide_eq_false h]
      refine List.any_eq_false.mpr fun x hx => ?_
      have := List.mem_range.mp hx
      intro z
      have := beq_iff_eq.mp z
      omega
theorem kd {b : Body} {z : Str} {r : Bool} (y : Str) (h : b.kind = y) (e : decide (V.str y = V.str z) = r) : decide (V.str b.kind = V.str z) = r := by rw [h]; exact e
def spLHas : Sp := fun vs H Q _ => ∃ (a c : Addr) (t : Th) (k : Key), vs = [.ref a, kV k] ∧ H a = some (.dK (thD c t)) ∧ HeldAt H c t.body ∧ t.body.wf ∧ (∀ H', Same H H' → Q (.bl (t.body.has k)) H')
def spLMay : Sp := fun vs H Q _ => ∃ (a c : Addr) (t : Th) (k : Key), vs = [.ref a, kV k] ∧ H a = some (.dK (thD c t)) ∧ HeldAt H c t.body ∧ t.body.wf ∧ (∀ H', Same H H' → Q (.bl (t.body.fits k)) H')
theorem lets_in {k : Key} {kvs : List (Key × V)} (h : kvs.map (·.1) = letK) : (decide (∃ z ∈ lets, k = .inr z)) = (valV kvs k).isSome := by
  rw [← valV_any]
  by_cases q : ∃ z ∈ lets, k = .inr z
  · rw [decide_eq_true q]
    obtain ⟨z, hz, rfl⟩ := q
    have m : (.inr z : Key) ∈ kvs.map (·.1) := by rw [h]; exact List.mem_map_of_mem hz
    obtain ⟨p, hp, e⟩ := List.mem_map.mp m
    exact (List.any_eq_true.mpr ⟨p, hp, decide_eq_true e⟩).symm
  · rw [decide_eq_false q]
    refine (List.any_eq_false.mpr fun p hp z => q ?_).symm
    have m : p.1 ∈ kvs.map (·.1) := List.mem_map_of_mem hp
    rw [h] at m
    obtain ⟨y, hy, e⟩ := List.mem_map.mp (show p.1 ∈ lets.map Sum.inr from m)
    exact ⟨y, hy, (of_decide_eq_true z).symm.trans e.symm⟩
theorem let_in {k : Key} : inV (kV k) (lets.map V.str) = decide (∃ z ∈ lets, k = .inr z) := by
  unfold inV
  rw [List.any_map]
  cases k with
  | inl i =>
    rw [decide_eq_false (by rintro ⟨z, _, e⟩; cases e)]
    exact List.any_eq_false.mpr fun x _ => by show ¬ (false = true); decide
  | inr y =>
    show (lets.any fun z => (z == y)) = _
    by_cases h : ∃ z ∈ lets, (.inr y : Key) = .inr z
    · rw [decide_eq_true h]
      obtain ⟨z, hz, e⟩ := h
      exact List.any_eq_true.mpr ⟨z, hz, by rw [beq_iff_eq]; exact (Sum.inr.inj e).symm⟩
    · rw [decide_eq_false h]
      refine List.any_eq_false.mpr fun x hx q => h ⟨x, hx, ?_⟩
      rw [beq_iff_eq.mp q]
end
end WK
namespace WK
open PySem PySem.Spec PyProof.Rows L2 He WB
section
variable {P : Program} {w : World} {K : PySem.W.Frag} {mg : Str → Option Value} {base : Heap}
def spLWrite : Sp := fun vs H Q _ => ∃ (a c : Addr) (t : Th) (k : Key) (v x : V) (word : Str), vs = [.ref a, .str word, kV k, v] ∧ H a = some (.dK (thD c t)) ∧ HeldAt H c t.body ∧ t.body.wf ∧ VR H v x ∧
  ((word = "put" ∧ t.body.fits k = true ∧ ∀ o, HeldAt (upd H c o) c (t.body.put k x) → Q .non (upd H c o)) ∨ (word = "cut" ∧ t.body.has k = true ∧ ∀ o, HeldAt (upd H c o) c (t.body.cut k) → Q .non (upd H c o)))
end
end WK
namespace WK
open PySem PySem.Spec PyProof.Rows L2 He WB
section
variable {P : Program} {w : World} {K : PySem.W.Frag} {mg : Str → Option Value} {base : Heap}
theorem nm_abc : nm0 = ("pqrstuvw" : Str).cps.toList.map fun c => ((.inr ⟨#[c]⟩ : Key), V.non) := by decide +kernel
theorem nm_at {i c : Nat} (h : ("pqrstuvw" : Str).cps[i]? = some c) : nm0[i]? = some (.inr ⟨#[c]⟩, .non) := by
  rw [nm_abc, List.getElem?_map, Array.getElem?_toList, h]; rfl
theorem kvr_non {H : Hp} : ∀ xs : List Str, KVR H (xs.map fun x => ((.inr x : Key), V.non)) (xs.map fun x => ((.inr x : Key), V.non))
  | [] => .nil
  | _ :: r => .cons ⟨rfl, rfl⟩ (kvr_non r)
def spLModel : Sp := fun vs H Q _ => vs = [] ∧ LamX.TabS H tabP lamQ ∧ ∀ m n l H', Same H H' → H m = none → H n = none → H l = none → LawX H' m S0 [m, n, l, tabP] n l (fun _ => 0) (fun _ => 0) → Q (.ref m) H'
end
end WK
namespace WK
open PySem PySem.Spec PyProof.Rows L2 He WB
section
variable {P : Program} {w : World} {K : PySem.W.Frag} {mg : Str → Option Value} {base : Heap}
theorem rec_abc : rec0 = ("abcd" : Str).cps.toList.map fun c => ((.inr ⟨#[c]⟩ : Key), V.non) := by decide +kernel
theorem rec_at {i c : Nat} (h : ("abcd" : Str).cps[i]? = some c) : rec0[i]? = some (.inr ⟨#[c]⟩, .non) := by
  rw [rec_abc, List.getElem?_map, Array.getElem?_toList, h]; rfl
def newD (kind : Str) (c : Addr) : List (Key × V) := [(.inr "kind", .str kind), (.inr "held", .ref c), (.inr "sees", .non), (.inr "gone", .bl false), (.inr "last", .str "none"), (.inr "goal", .non)]
def kinds4 : List Str := ["record", "row", "book", "watch"]
def newB (kind : Str) : Body := if kind = "watch" then .wat 0 false else emptyB kind
def spLMake : Sp := fun vs H Q _ => ∃ (m : Addr) (S : Sta) (O : List Addr) (n l : Addr) (A C : Nat → Addr) (kind : Str), vs = [.ref m, .str kind] ∧ LawX H m S O n l A C ∧ S.made ≤ 790 ∧ kind ∈ kinds4 ∧
  ∀ a c p H1, Same H H1 → H a = none → H c = none → a ≠ c → H1 a = some (.dK (newD kind c)) → HeldAt H1 c (newB kind) → H1 p = none → p ≠ l →
    Q (.ref p) (upd (upd H1 l (.lst (thL A S.made ++ [.ref a]))) p (.tup [.str "thing", .int (S.made : Int)]))
end
end WK
/-! The law's look at a thing's parts. -/
namespace WB
open PySem PySem.Spec PyProof.Rows L2 He PySem.W
/-- what the law tells of a thing's parts -/
def lparts : Body → List (Key × V)
  | .wat _ _ => []
  | b => b.shown
def kLeK (a b : Key) : Bool := !dataLt (kD b) (kD a)
theorem kLe_srt (vs : List (Key × V)) : (vs.mergeSort kLe).Pairwise fun p q => kLeK p.1 q.1 = true :=
  List.pairwise_mergeSort (le := kLe) (fun a b c => (sortLe_total _ false _).trans a b c) (fun a b => by rw [Bool.or_eq_true]; exact (sortLe_total _ false _).total a b) vs
theorem valV_one {k : Key} {v : V} : ∀ {kvs : List (Key × V)}, (kvs.map (·.1)).Nodup → (k, v) ∈ kvs → valV kvs k = some v
  | [], _, h => by cases h
  | (j, u) :: r, nd, h => by
    obtain ⟨n1, n2⟩ := List.nodup_cons.mp nd
    rcases List.mem_cons.mp h with e | h
    · cases e
      exact valV_pos rfl
    · have nj : k ≠ j := fun z => n1 (z ▸ List.mem_map_of_mem (f := (·.1)) h)
      rw [valV_neg fun z => nj z.symm]
      exact valV_one n2 h
theorem paired_by {α β : Type} {R : α → β → Prop} : ∀ {xs : List α} {ys : List β}, xs.length = ys.length → (∀ (i : Nat) x y, xs[i]? = some x → ys[i]? = some y → R x y) → Paired R xs ys
  | [], [], _, _ => .nil
  | [], _ :: _, h, _ => by cases h
  | _ :: _, [], h, _ => by cases h
  | x :: xs, y :: ys, h, r => .cons (r 0 x y rfl rfl) (paired_by (Nat.succ.inj h) fun i a b e1 e2 => r (i + 1) a b e1 e2)
theorem kvr_by {H : Hp} {vs kvs ys : List (Key × V)} {ks : List Key} (r : KVR H vs kvs) (p : ys.Perm vs) (nd : (vs.map (·.1)).Nodup) (e : ys.map (·.1) = ks) : KVR H ys (ks.map fun k => (k, (valV kvs k).getD .non)) := by
  refine paired_by (by rw [List.length_map, ← e, List.length_map]) fun i x y hx hy => ?_
  rw [List.getElem?_map, ← e, List.getElem?_map, hx] at hy
  cases Option.some.inj hy
  refine ⟨rfl, ?_⟩
  have hv : valV vs x.1 = some x.2 := valV_one nd (p.mem_iff.mp (List.mem_of_getElem? hx))
  rcases KVR.val x.1 r with ⟨z, _⟩ | ⟨v, u, h1, h2, h3⟩
  · rw [z] at hv; cases hv
  · rw [h1] at hv
    cases hv
    show VR H x.2 ((valV kvs x.1).getD .non)
    rw [h2]
    exact h3
theorem kLeK_int (i j : Int) : kLeK (.inl i) (.inl j) = decide (i ≤ j) := by
  unfold kLeK kD
  rw [dataLt_int]
  by_cases h : j < i
  · have h' : ¬ i ≤ j := by omega
    simp [h, h']
  · have h' : i ≤ j := by omega
    simp [h, h']
theorem sort_book {H : Hp} {vs kvs : List (Key × V)} (r : KVR H vs kvs) (w : (Body.dic false kvs).wf) : KVR H (vs.mergeSort kLe) (Body.dic false kvs).shown := by
  obtain ⟨w1, w2, w3⟩ := w
  have hk : vs.map (·.1) = (bkeys kvs).map Sum.inl := (KVR.keys r).trans (bkeys_map w3)
  have pm := List.mergeSort_perm vs kLe
  obtain ⟨ns, p1, p2⟩ := L2.perm_lift (Sum.inl : Int → Key) (pm.map (·.1)) (bkeys kvs) hk.symm
  have srt : ns.Pairwise (· ≤ ·) := by
    have h : ((vs.mergeSort kLe).map (·.1)).Pairwise fun a b : Key => kLeK a b = true := by
      rw [List.pairwise_map]
      exact kLe_srt vs
    rw [← p2, List.pairwise_map] at h
    refine h.imp fun {a b} z => ?_
    rw [kLeK_int] at z
    exact of_decide_eq_true z
  have e := srtI_eq p1 srt
  subst e
  have q := kvr_by r pm (by rw [KVR.keys r]; exact w1) p2.symm
  rw [List.map_map] at q
  exact q
theorem sort_rec {H : Hp} {vs kvs : List (Key × V)} (r : KVR H vs kvs) (w : (Body.dic true kvs).wf) : KVR H (vs.mergeSort kLe) (Body.dic true kvs).shown := by
  have hk : vs.map (·.1) = letK := (KVR.keys r).trans w
  have srt : vs.Pairwise fun p q => kLe p q = true := by
    have h : letK.Pairwise fun a b : Key => kLeK a b = true := by decide +kernel
    rw [← hk, List.pairwise_map] at h
    exact h
  rw [List.mergeSort_of_pairwise srt]
  exact kvr_by r (List.Perm.refl _) (by rw [hk]; decide +kernel) hk
end WB
namespace WK
open PySem PySem.Spec PyProof.Rows L2 He WB PySem.W
section
variable {P : Program} {w : World} {K : PySem.W.Frag} {mg : Str → Option Value} {base : Heap}
/-- all stays, but the table -/
def StpP (H H' : Hp) : Prop := ∀ a o, H a = some o → a ≠ tabP → H' a = some o
theorem StpP.tup {H H' : Hp} (t : LamX.TabS H tabP lamQ) (s : StpP H H') : Tup H H' := by
  obtain ⟨ps, h, _⟩ := t
  exact ⟨fun a xs e => s a _ e (fun z => by rw [z, h] at e; cases e), fun a xs e => s a _ e (fun z => by rw [z, h] at e; cases e)⟩
theorem StpP.of_same {H H' : Hp} (s : Same H H') : StpP H H' := fun a o e _ => s a o e
def spLParts : Sp := fun vs H Q _ => ∃ (a c : Addr) (t : Th), vs = [.ref a] ∧ H a = some (.dK (thD c t)) ∧ HeldAt H c t.body ∧ t.body.wf ∧ LamX.TabS H tabP lamQ ∧
  ∀ r H', StpP H H' → LamX.TabS H' tabP lamQ → H r = none → ShownAt H' r (lparts t.body) → Q (.ref r) H'
theorem kvr_shown {H H' : Hp} {l : Addr} {ts : List Addr} {ys ps : List (Key × V)} (hl : H' l = some (.lst (ts.map V.ref))) (h : Paired (fun (t : Addr) (y : Key × V) => H' t = some (.tup [kV y.1, y.2])) ts ys) (r : KVR H ys ps) (tp : Tup H H') : ShownAt H' l ps :=
  ⟨ts, hl, Paired.comp (fun t q p h1 h2 => ⟨q.2, by rw [← h2.1]; exact h1, VR.mono tp h2.2⟩) h r⟩
theorem alike_ints2 {kvs : List (Key × V)} (h : ∀ p ∈ kvs, ∃ i : Int, p.1 = .inl i) : AllAlike (kvs.map fun p => kD p.1) := by
  intro d hd e he
  obtain ⟨p, hp, rfl⟩ := List.mem_map.mp hd
  obtain ⟨q, hq, rfl⟩ := List.mem_map.mp he
  obtain ⟨i, ei⟩ := h p hp
  obtain ⟨j, ej⟩ := h q hq
  rw [ei, ej]
  simp [kD, alike]
theorem alike_strs2 {kvs : List (Key × V)} (h : ∀ p ∈ kvs, ∃ i : Str, p.1 = .inr i) : AllAlike (kvs.map fun p => kD p.1) := by
  intro d hd e he
  obtain ⟨p, hp, rfl⟩ := List.mem_map.mp hd
  obtain ⟨q, hq, rfl⟩ := List.mem_map.mp he
  obtain ⟨i, ei⟩ := h p hp
  obtain ⟨j, ej⟩ := h q hq
  rw [ei, ej]
  simp [kD, alike]
end
end WK
namespace WK
open PySem PySem.Spec PyProof.Rows L2 He WB PySem.W
section
variable {P : Program} {w : World} {K : PySem.W.Frag} {mg : Str → Option Value} {base : Heap}
theorem StpP.refl (H : Hp) : StpP H H := fun _ _ e _ => e
theorem StpP.trans {H H1 H2 : Hp} (a : StpP H H1) (b : StpP H1 H2) : StpP H H2 := fun x o e n => b x o (a x o e n) n
theorem StpP.mut {H H1 : Hp} {a : Addr} {o : HO} (s : StpP H H1) (h : H a = none) : StpP H (upd H1 a o) := fun x u e n => by
  rw [upd_ne (ne_of_none e h)]; exact s x u e n
theorem LawX.stpP {H H' : Hp} {m n l : Addr} {S : Sta} {O : List Addr} {A C : Nat → Addr} (s : StpP H H') (tb : LamX.TabS H' tabP lamQ) (X : LawX H m S O n l A C) : LawX H' m S O n l A C := by
  obtain ⟨vs, e1, e2, e3, e4, e5, e6, e7⟩ := X
  have tp : Tup H H' := StpP.tup e7.tb s
  have nt : ∀ {a u}, H a = some u → (∀ ps, u ≠ .tbl ps) → H' a = some u := fun {a u} e h => s a u e (e7.ntab e h).symm
  refine ⟨vs, nt e1 (fun _ z => by cases z), nt e2 (fun _ z => by cases z), KVR.mono tp e3, nt e4 (fun _ z => by cases z), fun j hj => ⟨nt (e5 j hj).1 (fun _ z => by cases z), ?_⟩, e6, ⟨e7.m, e7.n, e7.l, e7.a, e7.c, fun a ha => ?_, e7.tO, tb⟩⟩
  · obtain ⟨o, h1, _, h3⟩ := (e5 j hj).2.some
    exact (e5 j hj).2.mono tp ((nt h1 h3).trans h1.symm)
  · by_cases z : a = tabP
    · obtain ⟨ps, h, _⟩ := tb
      rw [z, h]; intro q; cases q
    · cases q : H a with
      | none => exact absurd q (e7.tr a ha)
      | some u => rw [s a u q z]; intro q; cases q
/-- [v[1] ... if isinstance(v, tuple)], one turn -/
theorem num_of {K : PySem.W.Frag} {σ : L2.St} {H : Hp} {v y : V} {Y : V → Hp → Prop} {N : Hp → Prop} (h3 : σ[3]? = some (some v)) (r : VR H v y) (yes : ∀ j : Nat, y = .ref j → Y (.int (j : Int)) H) (no : (∀ j, y ≠ .ref j) → N H) :
    tB (tCB (rIsi K) (tCons (tVar 3) (tCons (tC (V.ty "tuple")) tNil))) σ H fun b H3 => if b = true then tOp (rIxT K) (tVar 3) (tC (V.int 1)) σ H3 Y else N H3 := by
  rcases r.cases with ⟨rfl, rfl⟩ | ⟨i, rfl, rfl⟩ | ⟨b, j, rfl, rfl, e⟩
  · exact ⟨_, h3, _, _, _, _, _, rfl, .ty _, .base .non, kit_ty (r := false) (by decide +kernel), _, rfl, if_f rfl (no (by intro j z; cases z))⟩
  · exact ⟨_, h3, _, _, _, _, _, rfl, .ty _, .base (.int i), kit_ty (r := false) (by decide +kernel), _, rfl, if_f rfl (no (by intro j z; cases z))⟩
  · exact ⟨_, h3, _, _, _, _, _, rfl, .ty _, .base (.tup e), kit_ty (r := true) (by decide +kernel), _, rfl, if_t rfl ⟨_, h3, b, _, 1, _, rfl, rfl, SqT.of e, atI_nat (j := 1) rfl, yes j rfl⟩⟩
/-- the numbers gathered so far, and one value more -/
theorem nums_step {H1 H : Hp} {W : Addr} {xs : List V} {i : Nat} {y : V} (hy : xs[i]? = some y) (s : Same H1 H) (nW : H1 W = none) (g : H W = some (.lst (nV (refs (xs.take i))))) (l : xs.length ≤ 800) :
    (∀ j : Nat, y = .ref j → ∃ acc, H W = some (.lst acc) ∧ acc.length < sizeLine ∧ Same H1 (upd H W (.lst (acc ++ [.int (j : Int)]))) ∧ upd H W (.lst (acc ++ [.int (j : Int)])) W = some (.lst (nV (refs (xs.take (i + 1)))))) ∧
    ((∀ j, y ≠ .ref j) → Same H1 H ∧ H W = some (.lst (nV (refs (xs.take (i + 1)))))) := by
  have nx : refs (xs.take (i + 1)) = refs (xs.take i) ++ refs [y] := by rw [take_snoc hy, refs_app]
  have ll : (refs (xs.take i)).length ≤ 800 := Nat.le_trans (List.length_filterMap_le _ _) (by rw [List.length_take]; omega)
  refine ⟨fun j e => ⟨_, g, szl (by unfold nV; rw [List.length_map]; omega), same_mut s nW, ?_⟩, fun h => ⟨s, ?_⟩⟩
  · subst e
    rw [nx, upd_same]
    unfold nV
    rw [List.map_append]
    rfl
  · rw [nx, g]
    have : refs [y] = [] := by
      cases y with
      | ref j => exact absurd rfl (h j)
      | _ => rfl
    rw [this, List.append_nil]
theorem in_nV {s : Nat} : ∀ {ks : List Nat}, inV (.int (s : Int)) (nV ks) = decide (s ∈ ks)
  | [] => rfl
  | k :: r => by
    show (((k : Int) == (s : Int)) || inV (.int (s : Int)) (nV r)) = _
    rw [in_nV]
    by_cases e : s = k
    · subst e
      rw [beq_self_eq_true, decide_eq_true List.mem_cons_self]; rfl
    · have h : ((k : Int) == (s : Int)) = false := beq_eq_false_iff_ne.mpr fun z => e (Int.ofNat.inj z).symm
      rw [h, Bool.false_or]
      by_cases q : s ∈ r
      · rw [decide_eq_true q, decide_eq_true (List.mem_cons_of_mem _ q)]
      · rw [decide_eq_false q, decide_eq_false fun z => (List.mem_cons.mp z).elim e q]
theorem lheld (b : Body) : refs ((lparts b).map (·.2)) = b.held := by
  cases b <;> rfl
theorem lparts_len {b : Body} (w : b.wf) : (lparts b).length ≤ 8 := by
  cases b with
  | wat s g => exact Nat.zero_le _
  | row xs => exact Body.shown_len w
  | dic r kvs => exact Body.shown_len w
theorem sorted_nat {F : List Nat} {ns : List Int} (nd : F.Nodup) (p : ns.Perm (F.map fun (k : Nat) => (k : Int))) (s : ns.Pairwise (· ≤ ·)) : ∃ ks : List Nat, ns.map V.int = nV ks ∧ ks.Pairwise (· < ·) ∧ ∀ k, k ∈ ks ↔ k ∈ F := by
  obtain ⟨ks, h1, h2⟩ := L2.perm_lift (fun (k : Nat) => (k : Int)) p F rfl
  refine ⟨ks, by rw [← h2]; unfold nV; rw [List.map_map]; rfl, ?_, fun k => h1.mem_iff⟩
  rw [← h2, List.pairwise_map] at s
  have nk : ks.Nodup := h1.nodup_iff.mpr nd
  have key := List.Pairwise.and s nk
  exact key.imp fun {x y} h => by omega
theorem kvr_vals {H : Hp} : ∀ {vs kvs : List (Key × V)}, KVR H vs kvs → LVR H (vs.map (·.2)) (kvs.map (·.2))
  | _, _, .nil => .nil
  | _, _, .cons r t => .cons r.2 (kvr_vals t)
def spLWalk : Sp := fun vs H Q _ => ∃ (m a : Addr) (S : Sta) (O : List Addr) (n l : Addr) (A C : Nat → Addr) (vs0 vt : List V), vs = [.ref m, .ref a] ∧ LawX H m S O n l A C ∧ WB.Ok S ∧ S.made ≤ 790 ∧ H a = some (.lst vs0) ∧ LVR H vs0 vt ∧ vs0.length ≤ 800 ∧ (∀ k, Rch (heldS S) (fun _ => True) (refs vt) k → KeptA S k) ∧
  ∀ r H' ks, StpP H H' → LawX H' m S O n l A C → H r = none → H' r = some (.lst (nV ks)) → ks.Pairwise (· < ·) → (∀ k, k ∈ ks ↔ Rch (heldS S) (fun _ => True) (refs vt) k) → Q (.ref r) H'
def WalkW (H : Hp) (m a : Addr) (vt : List V) (S : Sta) (O : List Addr) (n l : Addr) (A C : Nat → Addr) (D W : Addr) (z : Nat) (σ : L2.St) (H' : Hp) : Prop :=
  ∃ (F Wt : List Nat) (x3 x5 x6 x7 : Option V), σ = [some (.ref m), some (.ref a), some (.ref D), x3, some (.ref W), x5, x6, x7] ∧ StpP H H' ∧ LawX H' m S O n l A C ∧ H' D = some (.lst (nV F)) ∧ H' W = some (.lst (nV Wt)) ∧
    Seek (heldS S) (fun _ => True) (refs vt) F Wt ∧ Wt.length ≤ 1000 + 8 * F.length ∧ z = 9 * (S.made - F.length) + Wt.length
def spLReach : Sp := fun vs H Q _ => ∃ (m : Addr) (S : Sta) (O : List Addr) (n l : Addr) (A C : Nat → Addr), vs = [.ref m] ∧ LawX H m S O n l A C ∧ WB.Ok S ∧ S.made ≤ 790 ∧
  ∀ r H' ks, StpP H H' → LawX H' m S O n l A C → H r = none → H' r = some (.lst (nV ks)) → ks.Pairwise (· < ·) → (∀ k, k ∈ ks ↔ ReachA S k) → Q (.ref r) H'
end
end WK
namespace WK
open PySem PySem.Spec PyProof.Rows L2 He WB
section
variable {P : Program} {w : World} {K : PySem.W.Frag} {mg : Str → Option Value} {base : Heap}
theorem thD_gone {c : Addr} {t : Th} {s : Nat} {g : Bool} (eb : t.body = .wat s g) : putK (thD c t) (.inr "gone" : Key) (.bl true) = thD c { t with body := .wat s true } := by
  unfold thD
  rw [eb]; rfl
def spLTell : Sp := fun vs H Q _ => ∃ (m : Addr) (S : Sta) (O : List Addr) (n l : Addr) (A C : Nat → Addr), vs = [.ref m] ∧ LawX H m S O n l A C ∧ WB.Ok S ∧ S.made ≤ 790 ∧
  ∀ r H' ks, Stp O H H' → Tup H H' → H r = none → H' r = some (.lst (nV ks)) → ks.Pairwise (· < ·) → (∀ k, k ∈ ks ↔ ReachA S k) → LawX H' m (S.tellBy (ReachA S)) O n l A C → Q (.ref r) H'
end
end WK
namespace WK
open PySem PySem.Spec PyProof.Rows L2 He WB
section
variable {P : Program} {w : World} {K : PySem.W.Frag} {mg : Str → Option Value} {base : Heap}
def spLSettle : Sp := fun vs H Q _ => ∃ (m : Addr) (S : Sta) (O : List Addr) (n l : Addr) (A C : Nat → Addr), vs = [.ref m] ∧ LawX H m S O n l A C ∧ WB.Ok S ∧ S.made ≤ 790 ∧
  ∀ r H' ks S', Stp O H H' → Tup H H' → H r = none → H' r = some (.lst (nV ks)) → Settle S ks S' → LawX H' m S' O n l A C → Q (.ref r) H'
def LSet (m : Addr) (S : Sta) (O : List Addr) (n l : Addr) (A C : Nat → Addr) (H : Hp) (z : Nat) (σ : L2.St) (H' : Hp) : Prop :=
  ∃ (S1 : Sta) (ks js : List Nat) (d e : Addr) (x3 x4 x5 : Option V), σ = [some (.ref m), some (.ref d), some (.ref e), x3, x4, x5] ∧ H d = none ∧ H e = none ∧ H' d = some (.lst (nV ks)) ∧ H' e = some (.lst (nV js)) ∧ LawX H' m S1 O n l A C ∧ Stp O H H' ∧ Tup H H' ∧ WB.Ok S1 ∧ S1.made = S.made ∧
    z = (if js = [] then 0 else (duesA S1).length + 1) ∧ (js = [] → Settle S ks S1) ∧ (js ≠ [] → ∀ ks' S', Settle S1 ks' S' → Settle S (ks ++ ks') S') ∧ ks.length + (duesA S1).length ≤ S.made
theorem last_due {t : Lst} : decide (V.str (lstS t) = V.str "due") = (t == .due) := by cases t <;> decide +kernel
theorem thD_done {c : Addr} {t : Th} : putK (thD c t) (.inr "last" : Key) (.str "done") = thD c ⟨t.body, .done, t.goal⟩ := by
  unfold thD
  rfl
def dueP (S : Sta) (rs : List Nat) (k : Nat) : Bool := ((S.th k).last == .due) && !decide (k ∈ rs)
open Classical in
theorem turn_eq {S : Sta} {rs : List Nat} (h : ∀ k, k ∈ rs ↔ ReachA S k) : (List.range S.made).filter (dueP S rs) = turnS S := by
  unfold turnS duesA
  rw [List.filter_filter]
  refine List.filter_congr fun k _ => ?_
  unfold dueP
  rw [Bool.and_comm]
  congr 2
  by_cases q : k ∈ rs
  · rw [decide_eq_true q, decide_eq_true ((h k).mp q)]
  · rw [decide_eq_false q, decide_eq_false fun z => q ((h k).mpr z)]
end
end WK
namespace WK
open PySem PySem.Spec PyProof.Rows L2 He WB
section
variable {P : Program} {w : World} {K : PySem.W.Frag} {mg : Str → Option Value} {base : Heap}
theorem cut_kind {b : Body} {k : Key} (h : b.isWat = false) : (b.cut k).kind = b.kind := by
  cases b with
  | dic r z => cases r <;> rfl
  | row z => rfl
  | wat s g => cases h
theorem cut_lsees {b : Body} {k : Key} (h : b.isWat = false) : (b.cut k).lsees = b.lsees := by
  cases b with
  | dic r z => cases r <;> rfl
  | row z => rfl
  | wat s g => cases h
theorem cut_lgone {b : Body} {k : Key} (h : b.isWat = false) : (b.cut k).lgone = b.lgone := by
  cases b with
  | dic r z => cases r <;> rfl
  | row z => rfl
  | wat s g => cases h
theorem put_kind {b : Body} {k : Key} {v : V} : (b.put k v).kind = b.kind := by
  cases b with
  | row z => show (if keyN k = z.length then Body.row (z ++ [v]) else Body.row (z.set (keyN k) v)).kind = _; split <;> rfl
  | dic r z => cases r <;> rfl
  | wat s g => rfl
theorem put_lsees {b : Body} {k : Key} {v : V} : (b.put k v).lsees = b.lsees := by
  cases b with
  | row z => show (if keyN k = z.length then Body.row (z ++ [v]) else Body.row (z.set (keyN k) v)).lsees = _; split <;> rfl
  | _ => rfl
theorem put_lgone {b : Body} {k : Key} {v : V} : (b.put k v).lgone = b.lgone := by
  cases b with
  | row z => show (if keyN k = z.length then Body.row (z ++ [v]) else Body.row (z.set (keyN k) v)).lgone = _; split <;> rfl
  | _ => rfl
def spLDo (p : Nat → Prop) : Sp := fun vs H Q _ => ∃ (m q : Addr) (S : Sta) (O : List Addr) (n l : Addr) (A C : Nat → Addr) (d : Deed), p d.tag ∧ vs = [.ref m, .ref q] ∧ LawX H m S O n l A C ∧ WB.Ok S ∧ S.made ≤ 780 ∧ DeedAt H q d ∧
  ∀ r H' S' O' A2 C2 told chg, StepR S d S' told chg → Stp O H H' → Tup H H' → Frs O O' H → TRF H O' H' r told → LawX H' m S' O' n l A2 C2 → Q r H'
end
end WK
namespace WK
open PySem PySem.Spec PyProof.Rows L2 He WB
section
variable {P : Program} {w : World} {K : PySem.W.Frag} {mg : Str → Option Value} {base : Heap}
theorem thD_due {c : Addr} {t : Th} {g : V} : putK (putK (thD c t) (.inr "last" : Key) (.str "due")) (.inr "goal" : Key) g = thD c ⟨t.body, .due, g⟩ := by
  unfold thD
  rfl
theorem kind_wat {b : Body} : decide (V.str b.kind = V.str "watch") = b.isWat := by
  cases b with
  | dic r z => cases r with | false => exact kd (r := false) "book" rfl (by decide +kernel) | true => exact kd (r := false) "record" rfl (by decide +kernel)
  | row z => exact kd (r := false) "row" rfl (by decide +kernel)
  | wat s g => exact kd (r := true) "watch" rfl (by decide +kernel)
theorem newD_sees {c : Addr} {j : Nat} : putK (newD "watch" c) (.inr "sees" : Key) (.int (j : Int)) = thD c ⟨.wat j false, .no, .non⟩ := by
  unfold thD newD
  rfl
theorem at_last {α : Type} {xs : List α} {v : α} : atI (xs ++ [v]) (-1) = some v := by
  unfold atI ixN
  rw [if_neg (by omega), if_pos (by rw [List.length_append, List.length_singleton]; omega)]
  show (xs ++ [v])[(-1 + ((xs ++ [v]).length : Int)).toNat]? = some v
  rw [show (-1 + ((xs ++ [v]).length : Int)).toNat = xs.length by rw [List.length_append, List.length_singleton]; omega]
  simp
theorem last_none {t : Lst} : decide (V.str (lstS t) = V.str "none") = (t == .no) := by cases t <;> decide +kernel
end
end WK
namespace WK
open PySem PySem.Spec PyProof.Rows L2 He WB
section
variable {P : Program} {w : World} {K : PySem.W.Frag} {mg : Str → Option Value} {base : Heap}
theorem VR.ntup_l {H : Hp} {n : Addr} {xs : List V} (e : H n = some (.lst xs)) {o : HO} : Tup H (upd H n o) := tup_upd (by rw [e]; intro xs z; cases z; rfl)
/-- a promise over a heap that grew first -/
theorem spLDo_same {m : Addr} {S : Sta} {O : List Addr} {n l : Addr} {d : Deed} {H H1 : Hp} {Q : VK} (s : Same H H1)
    (k : ∀ r H' S' O' A2 C2 told chg, StepR S d S' told chg → Stp O H H' → Tup H H' → Frs O O' H → TRF H O' H' r told → LawX H' m S' O' n l A2 C2 → Q r H') :
    ∀ r H' S' O' A2 C2 told chg, StepR S d S' told chg → Stp O H1 H' → Tup H1 H' → Frs O O' H1 → TRF H1 O' H' r told → LawX H' m S' O' n l A2 C2 → Q r H' :=
  fun r H' S' O' A2 C2 told chg st sp tp fr tr X => k r H' S' O' A2 C2 told chg st ((Stp.of_same s).trans' sp) ((Same.tup s).trans tp) (fun a ha => (fr a ha).imp_right fun z => s.free z) (tr.back s) X
end
end WK
namespace WK
open PySem PySem.Spec PyProof.Rows L2 He WB PySem.W
section
variable {P : Program} {w : World} {K : PySem.W.Frag} {mg : Str → Option Value} {base : Heap}
theorem NumAt_tup {H H' : Hp} {h l : Addr} (x : NumAt H h l) (s : Stp [h, l] H H') : Tup H H' := by
  obtain ⟨m, b, xs, e1, e2, _, _⟩ := x
  refine ⟨fun a u e => s a _ e fun z => ?_, fun a u e => s a _ e fun z => ?_⟩ <;>
  · rcases List.mem_cons.mp z with z | z
    · rw [z, e1] at e; cases e
    · rw [List.mem_singleton.mp z, e2] at e; cases e
theorem NumAt.fresh {H : Hp} {h l L : Addr} (x : NumAt H h l) (hL : H L = none) : L ∉ [h, l] := fun z => by
  obtain ⟨m, b, xs, e1, e2, _, _⟩ := x
  rcases List.mem_cons.mp z with z | z
  · rw [z, e1] at hL; cases hL
  · rw [List.mem_singleton.mp z, e2] at hL; cases hL
theorem odd_at : ∀ j : Nat, j < 6 → ∃ kk : Key, ([.int 0, .int 1, .int 8, .int 9, .str "a", .str "d"] : List V)[j]? = some (kV kk) ∧ PartOk kk
  | 0, _ => ⟨.inl 0, rfl, by decide, by decide⟩
  | 1, _ => ⟨.inl 1, rfl, by decide, by decide⟩
  | 2, _ => ⟨.inl 8, rfl, by decide, by decide⟩
  | 3, _ => ⟨.inl 9, rfl, by decide, by decide⟩
  | 4, _ => ⟨.inr "a", rfl, by show _ ∈ WB.lets; decide +kernel⟩
  | 5, _ => ⟨.inr "d", rfl, by show _ ∈ WB.lets; decide +kernel⟩
  | n + 6, h => absurd h (by omega)
theorem let_at : ∀ j : Nat, j < 4 → ∃ c : Nat, ("abcd" : Str).cps.toList[j]? = some c ∧ (⟨#[c]⟩ : Str) ∈ WB.lets
  | 0, _ => ⟨97, by decide +kernel, by decide +kernel⟩
  | 1, _ => ⟨98, by decide +kernel, by decide +kernel⟩
  | 2, _ => ⟨99, by decide +kernel, by decide +kernel⟩
  | 3, _ => ⟨100, by decide +kernel, by decide +kernel⟩
  | n + 4, h => absurd h (by omega)
theorem two_at {a b : V} : ∀ j : Nat, j < 2 → ([a, b] : List V)[j]? = some (if j = 0 then a else b)
  | 0, _ => rfl
  | 1, _ => rfl
  | n + 2, h => absurd h (by omega)
theorem nat_of {q : Int} (h : 0 ≤ q) : ∃ j : Nat, q = j := ⟨q.toNat, by omega⟩
def spLPart : Sp := fun vs H Q _ => ∃ (h l a c : Addr) (t : Th), vs = [.ref h, .ref a] ∧ NumAt H h l ∧ H a = some (.dK (thD c t)) ∧ HeldAt H c t.body ∧ t.body.wf ∧ a ∉ [h, l] ∧ c ∉ [h, l] ∧
  ∀ k H', PartOk k → Stp [h, l] H H' → NumAt H' h l → Q (kV k) H'
end
end WK
namespace WK
open PySem PySem.Spec PyProof.Rows L2 He WB
section
variable {P : Program} {w : World} {K : PySem.W.Frag} {mg : Str → Option Value} {base : Heap}
theorem strs_lay : ∀ xs : List Str, (∀ x ∈ xs, x ∈ nmS) → PyData.canLayAll0 (xs.map PyData.str) = true
  | [], _ => by simp [PyData.canLayAll0]
  | x :: r, h => by
    have := strs_lay r fun y hy => h y (List.mem_cons_of_mem _ hy)
    have hx : PyData.strOk x = true := (show ∀ z ∈ nmS, PyData.strOk z = true by decide +kernel) x (h x List.mem_cons_self)
    simp [PyData.canLayAll0, PyData.canLay0, this, hx]
theorem strs_flat2 : ∀ xs : List Str, (xs.map V.str).all flatV = true
  | [] => rfl
  | _ :: r => strs_flat2 r
theorem strs_depth : ∀ xs : List Str, PyData.depthAll (xs.map PyData.str) ≤ 1
  | [] => by simp [PyData.depthAll]
  | x :: r => by
    have := strs_depth r
    simp only [List.map_cons, PyData.depthAll, PyData.depth]
    omega
theorem strs_shaped (xs : List Str) (h : ∀ x ∈ xs, x ∈ nmS) : SeqAt.shaped (.list (xs.map PyData.str)) = true := by
  show (PyData.canLay0 (.list (xs.map PyData.str)) && decide (PyData.depth (.list (xs.map PyData.str)) ≤ 64)) = true
  rw [Bool.and_eq_true]
  refine ⟨?_, decide_eq_true ?_⟩
  · simp only [PyData.canLay0]; exact strs_lay xs h
  · have := strs_depth xs
    simp only [PyData.depth]; omega
theorem strs_dp {K : PySem.W.Frag} {H : Hp} : ∀ xs : List Str, DpAll K H (xs.map V.str) (xs.map PyData.str)
  | [] => .nil
  | x :: r => .cons (.str x) (strs_dp r)
theorem strs_nil (xs : List Str) : PyData.eqv (.list (xs.map PyData.str)) (.list []) = xs.isEmpty := by
  cases xs with
  | nil => simp [PyData.eqv, PyData.eqvAll]
  | cons x r => simp [PyData.eqv, PyData.eqvAll]
theorem nm_mem {i c : Nat} (h : ("pqrstuvw" : Str).cps[i]? = some c) : (⟨#[c]⟩ : Str) ∈ nmS := by
  have e := nm_at h
  have m : (.inr ⟨#[c]⟩ : Key) ∈ nm0.map (·.1) := List.mem_map.mpr ⟨_, List.mem_of_getElem? e, rfl⟩
  rw [show nm0.map (·.1) = nmS.map Sum.inr by decide +kernel] at m
  obtain ⟨z, hz, e2⟩ := List.mem_map.mp m
  rw [← Sum.inr.inj e2]
  exact hz
def spLHeld : Sp := fun vs H Q _ => ∃ (m kd : Addr) (S : Sta) (O : List Addr) (n l : Addr) (A C : Nat → Addr) (ks : List Str), vs = [.ref m, .ref kd] ∧ LawX H m S O n l A C ∧ WB.Ok S ∧ S.made ≤ 790 ∧ H kd = some (.lst (ks.map V.str)) ∧ ks.length ≤ 8 ∧
  ∀ r H' xs, Same H H' → H r = none → H' r = some (.lst (xs.map V.str)) → xs ≠ [] → xs.length ≤ 8 → (∀ x ∈ xs, x ∈ nmS) → Q (.ref r) H'
end
end WK
namespace WK
open PySem PySem.Spec PyProof.Rows L2 He WB
section
variable {P : Program} {w : World} {K : PySem.W.Frag} {mg : Str → Option Value} {base : Heap}
theorem stp_fresh {H H' : Hp} {h ls p : Addr} (hn : NumAt H h ls) (st : Stp [h, ls] H H') (n : NumAt H' h ls) (hp : H' p = none) : H p = none := by
  cases q : H p with
  | none => rfl
  | some o =>
    have := st p o q (NumAt.fresh n hp)
    rw [hp] at this
    cases this
/-- a list of deeds, new since H0 -/
def DLs (H0 H : Hp) (xs : List V) : Prop := ∀ x ∈ xs, ∃ p d, x = .ref p ∧ H0 p = none ∧ DeedAt H p d
theorem DLs.mono {H0 H H' : Hp} {xs : List V} (t : Tup H H') (d : DLs H0 H xs) : DLs H0 H' xs := fun x hx => let ⟨p, e, h1, h2, h3, h4⟩ := d x hx; ⟨p, e, h1, h2, h3, t _ _ h4⟩
theorem DLs.nil {H0 H : Hp} : DLs H0 H [] := fun _ z => nomatch z
theorem DLs.snoc {H0 H : Hp} {xs : List V} {p : Addr} {d : Deed} (ds : DLs H0 H xs) (h0 : H0 p = none) (hp : H p = none) (hd : d.ok) {vs : List V} (e : vs = .str d.word :: d.args) : DLs H0 (upd H p (.tup vs)) (xs ++ [.ref p]) := fun x hx => by
  rcases List.mem_append.mp hx with hx | hx
  · exact (ds.mono (Same.tup (same_new hp))) x hx
  · rw [List.mem_singleton.mp hx]
    exact ⟨p, d, rfl, h0, hd, by rw [upd_same, e]⟩
theorem DLs.app {H0 H : Hp} {xs ys : List V} (a : DLs H0 H xs) (b : DLs H0 H ys) : DLs H0 H (xs ++ ys) := fun x hx => (List.mem_append.mp hx).elim (a x) (b x)
def spLDeed : Sp := fun vs H Q _ => ∃ (h ls m : Addr) (S : Sta) (O : List Addr) (n l : Addr) (A C : Nat → Addr), vs = [.ref h, .ref m] ∧ NumAt H h ls ∧ LawX H m S O n l A C ∧ WB.Ok S ∧ S.made ≤ 790 ∧ h ∉ O ∧ ls ∉ O ∧
  ∀ p H' d, Stp [h, ls] H H' → NumAt H' h ls → H p = none → DeedAt H' p d → Q (.ref p) H'
/-- a text whose signs are all names -/
structure Nms (z : Str) : Prop where
  pos : 0 < z.length
  len : z.length ≤ 8
  all : (z.cps.toList.all fun c => decide ((⟨#[c]⟩ : Str) ∈ nmS)) = true
theorem Nms.get {z : Str} (n : Nms z) {j : Nat} (h : (j : Int) < z.length) : ∃ c, atI z.cps.toList (j : Int) = some c ∧ (⟨#[c]⟩ : Str) ∈ nmS := by
  have hj : j < z.cps.toList.length := by
    have : z.length = z.cps.toList.length := by simp [Str.length]
    omega
  refine ⟨_, atI_nat (List.getElem?_eq_getElem hj), ?_⟩
  exact of_decide_eq_true (List.all_eq_true.mp n.all _ (List.getElem_mem hj))
theorem nms_cut (e : Int) (h : e = 3 ∨ e = 5 ∨ e = 8) : Nms (cutS "pqrstuvw" none (some e)) := by
  rcases h with rfl | rfl | rfl
  · exact ⟨by decide +kernel, by decide +kernel, by decide +kernel⟩
  · exact ⟨by decide +kernel, by decide +kernel, by decide +kernel⟩
  · exact ⟨by decide +kernel, by decide +kernel, by decide +kernel⟩
theorem nms_all : Nms "pqrstuvw" := ⟨by decide +kernel, by decide +kernel, by decide +kernel⟩
theorem three_at {a b c : V} : ∀ j : Nat, j < 3 → ([a, b, c] : List V)[j]? = some (if j = 0 then a else if j = 1 then b else c)
  | 0, _ => rfl
  | 1, _ => rfl
  | 2, _ => rfl
  | n + 3, h => absurd h (by omega)
theorem str_at {xs : List Str} {j : Nat} (h : (j : Int) < (xs.map V.str).length) : ∃ x ∈ xs, atI (xs.map V.str) (j : Int) = some (.str x) := by
  rw [List.length_map] at h
  have hj : j < xs.length := by omega
  exact ⟨xs[j], List.getElem_mem hj, atI_nat (by rw [List.getElem?_map, List.getElem?_eq_getElem hj]; rfl)⟩
theorem deed_make (T : Tx w K mg) {σ : L2.St} {H H6 : Hp} {h ls : Addr} {name : Str} {Y : V → Hp → Prop} (h0 : σ[0]? = some (some (.ref h))) (h3 : σ[3]? = some (some (.str name))) (nx : name ∈ nmS) (st6 : Stp [h, ls] H H6) (n6 : NumAt H6 h ls)
    (k : ∀ p H' d, Stp [h, ls] H H' → NumAt H' h ls → H p = none → DeedAt H' p d → Y (.ref p) H') (hn : NumAt H h ls) :
    tTup (tCons (tC (.str "make")) (tCons (tVar 3) (tCons (tOp (rIxL K) (tLst (tCons (tC (.str "record")) (tCons (tC (.str "row")) (tCons (tC (.str "book")) tNil)))) (tCG ⟨P, w, K, mg, base⟩ 2 "_law_next" (tCons (tVar 0) (tCons (tC (.int 3)) tNil)))) tNil))) σ H6 Y := by
  refine ⟨_, h3, by show 3 ≤ sizeLine; decide, fun L hL => ?_⟩
  have s7 : Same H6 (upd H6 L (.lst [.str "record", .str "row", .str "book"])) := same_new hL
  refine ⟨_, _, _, _, g__law_next T, ok__law_next T, by decide, _, h0, h, ls, 3, rfl, n6.same s7, by decide, by decide, fun q H8 q0 q1 st8 n8 => ?_⟩
  obtain ⟨j, rfl⟩ := nat_of q0
  have g8 := st8 _ _ upd_same (NumAt.fresh n6 hL)
  have st9 := (st6.trans' (Stp.of_same s7)).trans' st8
  obtain ⟨kd, ek, mk⟩ : ∃ kd : Str, ([.str "record", .str "row", .str "book"] : List V)[j]? = some (.str kd) ∧ kd ∈ (["record", "row", "book"] : List Str) := by
    rw [three_at j (by omega)]
    split
    · exact ⟨"record", rfl, by decide +kernel⟩
    · split
      · exact ⟨"row", rfl, by decide +kernel⟩
      · exact ⟨"book", rfl, by decide +kernel⟩
  refine ⟨L, _, j, .str kd, rfl, rfl, SqL.of g8, atI_nat ek, by show 3 ≤ sizeLine; decide, fun p hp => ?_⟩
  have sp : Same H8 (upd H8 p (.tup [.str "make", .str name, .str kd])) := same_new hp
  exact k p _ (.make name kd) (st9.trans' (Stp.of_same sp)) (n8.same sp) (stp_fresh hn st9 n8 hp) ⟨⟨nx, mk⟩, upd_same⟩
end
end WK
/-! The law's comparison. -/
namespace WB
open PySem PySem.Spec PyProof.Rows L2 He
/-- what is compared -/
inductive Tr where
  | non
  | int (i : Int)
  | str (x : Str)
  | tup (xs : List Tr)
  | lst (xs : List Tr)
/-- v stands for t, of no more than d levels -/
def RepN (H : Hp) : Nat → V → Tr → Prop
  | 0, _, _ => False
  | d + 1, v, t => match t with
    | .non => v = .non
    | .int i => v = .int i
    | .str x => v = .str x
    | .tup ts => ∃ a vs, v = .ref a ∧ H a = some (.tup vs) ∧ ts.length ≤ 1000 ∧ Paired (RepN H d) vs ts
    | .lst ts => ∃ a vs, v = .ref a ∧ H a = some (.lst vs) ∧ ts.length ≤ 1000 ∧ Paired (RepN H d) vs ts
theorem RepN.same {H H' : Hp} (s : Same H H') : ∀ (d : Nat) (v : V) (t : Tr), RepN H d v t → RepN H' d v t
  | 0, v, t, h => h
  | d + 1, v, t, h => by
    cases t with
    | non => exact h
    | int i => exact h
    | str x => exact h
    | tup ts =>
      obtain ⟨a, vs, e, h1, h2, h3⟩ := h
      exact ⟨a, vs, e, s _ _ h1, h2, Paired.imp (fun u y r => RepN.same s d u y r) h3⟩
    | lst ts =>
      obtain ⟨a, vs, e, h1, h2, h3⟩ := h
      exact ⟨a, vs, e, s _ _ h1, h2, Paired.imp (fun u y r => RepN.same s d u y r) h3⟩
end WB
namespace WK
open PySem PySem.Spec PyProof.Rows L2 He WB
section
variable {P : Program} {w : World} {K : PySem.W.Frag} {mg : Str → Option Value} {base : Heap}
theorem any_tl {K : PySem.W.Frag} {t : String} {b1 b2 : Bool} (h1 : kitB t "tuple" = some b1) (h2 : kitB t "list" = some b2) : PySem.W.kitAny K (.type t) [.type "tuple", .type "list"] = some (b1 || b2) :=
  kitAny_cons (kit_ty h1) (fun e => by subst e; exact kitAny_cons (kit_ty h2) (fun e => by subst e; rfl) (fun e => by subst e; rfl)) (fun e => by subst e; rfl)
def spAlike (d : Nat) : Sp := fun vs H Q _ => ∃ (v u : V) (t : Tr), vs = [v, u] ∧ RepN H d v t ∧ RepN H d u t ∧ ∀ H', Same H H' → Q (.bl true) H'
end
end WK
/-! What a photo is, as it is compared. -/
namespace WB
open PySem PySem.Spec PyProof.Rows L2 He
def vT : V → Tr
  | .int i => .int i
  | .str x => .str x
  | .ref k => .tup [.str "thing", .int (k : Int)]
  | _ => .non
def kT : Key → Tr
  | .inl i => .int i
  | .inr x => .str x
theorem RepN.up {H : Hp} : ∀ (d : Nat) (v : V) (t : Tr), RepN H d v t → RepN H (d + 1) v t
  | 0, v, t, h => h.elim
  | d + 1, v, t, h => by
    cases t with
    | non => exact h
    | int i => exact h
    | str x => exact h
    | tup ts =>
      obtain ⟨a, vs, e, h1, h2, h3⟩ := h
      exact ⟨a, vs, e, h1, h2, Paired.imp (fun u y r => RepN.up d u y r) h3⟩
    | lst ts =>
      obtain ⟨a, vs, e, h1, h2, h3⟩ := h
      exact ⟨a, vs, e, h1, h2, Paired.imp (fun u y r => RepN.up d u y r) h3⟩
theorem RepN.le {H : Hp} {d e : Nat} {v : V} {t : Tr} (h : RepN H d v t) (l : d ≤ e) : RepN H e v t := by
  induction l with
  | refl => exact h
  | step _ ih => exact RepN.up _ _ _ ih
theorem rep_key {H : Hp} (k : Key) : RepN H 1 (kV k) (kT k) := by cases k <;> rfl
theorem rep_v {H : Hp} {v x : V} (h : VR H v x) : RepN H 2 v (vT x) := by
  rcases h.cases with ⟨rfl, rfl⟩ | ⟨i, rfl, rfl⟩ | ⟨a, k, rfl, rfl, e⟩
  · rfl
  · rfl
  · exact ⟨a, _, rfl, e, by show 2 ≤ 1000; decide, .cons rfl (.cons rfl .nil)⟩
def partT (p : Key × V) : Tr := .tup [kT p.1, vT p.2]
def partsT (ps : List (Key × V)) : Tr := .lst (ps.map partT)
theorem Paired.mapR {α β γ : Type} {R : α → γ → Prop} (f : β → γ) : ∀ {xs : List α} {ys : List β}, Paired (fun a b => R a (f b)) xs ys → Paired R xs (ys.map f)
  | _, _, .nil => .nil
  | _, _, .cons r t => .cons r (Paired.mapR f t)
theorem Paired.mapL {α β γ : Type} {R : γ → β → Prop} (f : α → γ) : ∀ {xs : List α} {ys : List β}, Paired (fun a b => R (f a) b) xs ys → Paired R (xs.map f) ys
  | _, _, .nil => .nil
  | _, _, .cons r t => .cons r (Paired.mapL f t)
theorem paired_mem {α β : Type} {R S : α → β → Prop} : ∀ {xs : List α} {ys : List β}, Paired R xs ys → (∀ a b, b ∈ ys → R a b → S a b) → Paired S xs ys
  | _, _, .nil, _ => .nil
  | _, _, .cons r t, h => .cons (h _ _ List.mem_cons_self r) (paired_mem t fun a b hb => h a b (List.mem_cons_of_mem _ hb))
theorem rep_parts {H : Hp} {l : Addr} {ps : List (Key × V)} (h : ShownAt H l ps) (n : ps.length ≤ 1000) : RepN H 4 (.ref l) (partsT ps) := by
  obtain ⟨ts, h1, h2⟩ := h
  refine ⟨l, _, rfl, h1, by rw [List.length_map]; exact n, Paired.mapL _ (Paired.mapR _ (Paired.imp (fun t p ⟨v, e, r⟩ => ?_) h2))⟩
  exact ⟨t, _, rfl, e, by show 2 ≤ 1000; decide, .cons ((rep_key p.1).le (by decide)) (.cons (rep_v r) .nil)⟩
def snapT (k : Nat) (t : Th) : Tr := .tup [.int (k : Int), .str t.body.kind, partsT t.body.shown, .int t.body.size]
def photoT (S : Sta) (ks : List Nat) : Tr := .tup [.lst (S.names.map fun p => vT p.2), .lst (ks.map fun k => snapT k (S.th k))]
end WB
namespace WK
open PySem PySem.Spec PyProof.Rows L2 He WB
theorem rep_photo {H0 H : Hp} {p : Addr} {S : Sta} {ks : List Nat} (h : PhotoAt H0 H p S ks) (n8 : S.names.length ≤ 1000) (wf : ∀ k ∈ ks, (S.th k).body.wf) (lk : ks.length ≤ 1000) : RepN H 7 (.ref p) (photoT S ks) := by
  obtain ⟨ln, lt, vs, ts, e1, e2, e3, e4, _, _, _, Hm, _, _, _, e5⟩ := h
  refine ⟨p, _, rfl, e1, by show 2 ≤ 1000; decide, .cons ⟨ln, vs, rfl, e2, by rw [List.length_map]; exact n8, ?_⟩ (.cons ⟨lt, _, rfl, e4, by rw [List.length_map]; exact lk, ?_⟩ .nil)⟩
  · have q : Paired (fun v x => RepN H 5 v (vT x)) vs (S.names.map (·.2)) := Paired.imp (fun v x r => (rep_v r).le (by decide)) e3
    have q2 := Paired.mapR vT q
    rw [List.map_map] at q2
    exact q2
  · refine Paired.mapL _ (Paired.mapR _ (paired_mem e5 fun t k hk ⟨lp, s1, s2, _⟩ => ?_))
    have hl : (S.th k).body.shown.length ≤ 1000 := Nat.le_trans (Body.shown_len (wf k hk)) (by decide)
    exact ⟨t, _, rfl, s1, by show 4 ≤ 1000; decide, .cons rfl (.cons rfl (.cons (rep_parts s2 hl) (.cons rfl .nil)))⟩
end WK
namespace WK
open PySem PySem.Spec PyProof.Rows L2 He WB
section
variable {P : Program} {w : World} {K : PySem.W.Frag} {mg : Str → Option Value} {base : Heap}
/-- all but D -/
def hid (D : Addr) (H : Hp) : Hp := fun b => if b = D then none else H b
theorem hid_same {D : Addr} {H : Hp} : Same (hid D H) H := fun a o e => by
  unfold hid at e
  by_cases z : a = D
  · rw [if_pos z] at e; cases e
  · rw [if_neg z] at e; exact e
theorem hid_at {D a : Addr} {H : Hp} {o : HO} (e : H a = some o) (n : a ≠ D) : hid D H a = some o := by
  unfold hid; rw [if_neg n]; exact e
/-- all stays but tables -/
def StT (H H' : Hp) : Prop := ∀ a o, H a = some o → (∀ ps, o ≠ .tbl ps) → H' a = some o
theorem RepN.stay {H H' : Hp} (s : StT H H') : ∀ (d : Nat) (v : V) (t : Tr), RepN H d v t → RepN H' d v t
  | 0, v, t, h => h
  | d + 1, v, t, h => by
    cases t with
    | non => exact h
    | int i => exact h
    | str x => exact h
    | tup ts =>
      obtain ⟨a, vs, e, h1, h2, h3⟩ := h
      exact ⟨a, vs, e, s _ _ h1 (fun _ z => by cases z), h2, Paired.imp (fun u y r => RepN.stay s d u y r) h3⟩
    | lst ts =>
      obtain ⟨a, vs, e, h1, h2, h3⟩ := h
      exact ⟨a, vs, e, s _ _ h1 (fun _ z => by cases z), h2, Paired.imp (fun u y r => RepN.stay s d u y r) h3⟩
theorem hid_stay {D : Addr} {H H' : Hp} (s : StT H H') : StT (hid D H) (hid D H') := fun a o e n => by
  have n' : a ≠ D := fun z => by unfold hid at e; rw [if_pos z] at e; cases e
  exact hid_at (s a o (hid_same _ _ e) n) n'
theorem StT.of_stpP {H H' : Hp} (t : LamX.TabS H tabP lamQ) (s : StpP H H') : StT H H' := fun a o e n => s a o e fun z => by
  obtain ⟨ps, h, _⟩ := t
  rw [z, h] at e
  exact n ps (Option.some.inj e).symm
theorem hid_put {D : Addr} {H : Hp} {o : HO} : hid D (upd H D o) = hid D H := funext fun b => by
  unfold hid
  by_cases z : b = D
  · rw [if_pos z, if_pos z]
  · rw [if_neg z, if_neg z, upd_ne z]
theorem shown_hid {D l : Addr} {H : Hp} {ps : List (Key × V)} {xs : List V} (hD : H D = some (.lst xs)) (n : l ≠ D) (h : ShownAt H l ps) : ShownAt (hid D H) l ps := by
  obtain ⟨ts, h1, h2⟩ := h
  have tp : Tup H (hid D H) := ⟨fun a ys e => hid_at e (fun z => by rw [z, hD] at e; cases e), fun a ys e => hid_at e (fun z => by rw [z, hD] at e; cases e)⟩
  exact ⟨ts, hid_at h1 n, Paired.imp (fun t p ⟨v, e, r⟩ => ⟨v, tp _ _ e, VR.mono tp r⟩) h2⟩
def spLPhoto : Sp := fun vs H Q _ => ∃ (m : Addr) (S : Sta) (O : List Addr) (n l : Addr) (A C : Nat → Addr), vs = [.ref m] ∧ LawX H m S O n l A C ∧ WB.Ok S ∧ S.made ≤ 790 ∧
  ∀ p H' ks, StpP H H' → LawX H' m S O n l A C → ks.Pairwise (· < ·) → (∀ k, k ∈ ks ↔ ReachA S k) → RepN H' 7 (.ref p) (photoT S ks) → Q (.ref p) H'
end
end WK
/-! Two states side by side: the Plain's heap and the law's. -/
namespace WK
open PySem PySem.Spec PyProof.Rows L2 He WB
theorem HeapX_tup {K : PySem.W.Frag} {H H' : Hp} {h : Addr} {S : Sta} {live : List Nat} {O : List Addr} {dh n t : Addr} {ch : V} {A C : Nat → Addr} (X : HeapX K H h S live O dh n t ch A C) (s : Stp O H H') : Tup H H' := by
  obtain ⟨_, _, _, _, _, _, _, e7⟩ := X
  have k : ∀ a o, still o = true → H a = some o → H' a = some o := fun a o q e => s a o e fun z => by
    obtain ⟨u, e2, q2⟩ := e7.tr a z
    rw [e] at e2
    cases e2
    rw [q] at q2
    cases q2
  exact ⟨fun a xs e => k a _ rfl e, fun a φ e => k a _ rfl e⟩
theorem HeapX_keep {K : PySem.W.Frag} {H H' : Hp} {h : Addr} {S : Sta} {live : List Nat} {O : List Addr} {dh n t : Addr} {ch : V} {A C : Nat → Addr} (X : HeapX K H h S live O dh n t ch A C) (tp : Tup H H') (k : ∀ a ∈ O, H' a = H a) : HeapX K H' h S live O dh n t ch A C := by
  obtain ⟨vs, e1, e2, e3, e4, e5, e6, e7⟩ := X
  refine ⟨vs, (k _ e7.h).trans e1, (k _ e7.n).trans e2, KVR.mono tp e3, (k _ e7.t).trans e4, fun j hj => ?_, e6, ⟨e7.h, e7.n, e7.t, e7.a, e7.c, fun b hb => ?_⟩⟩
  · obtain ⟨dx, pv, h1, h2⟩ := e5 j hj
    refine ⟨dx, pv, (k _ (e7.a j hj)).trans h1, ?_⟩
    have c7 := e7.c j hj
    cases hb : (S.th j).body with
    | wat s g => rw [hb] at h2; exact VR.mono tp h2
    | row xs =>
      rw [hb] at h2 c7
      obtain ⟨p1, vs, p2, p3⟩ := h2
      exact ⟨p1, vs, (k _ (c7 rfl)).trans p2, LVR.mono tp p3⟩
    | dic r kvs =>
      rw [hb] at h2 c7
      obtain ⟨p1, vs, p2, p3⟩ := h2
      exact ⟨p1, vs, (k _ (c7 rfl)).trans p2, KVR.mono tp p3⟩
  · obtain ⟨o, e, q⟩ := e7.tr b hb
    exact ⟨o, (k b hb).trans e, q⟩
theorem PlainAt_stp {K : PySem.W.Frag} {H H' : Hp} {p : Addr} {S : Sta} {O O2 : List Addr} (X : PlainAt K H p S O) (s : Stp O2 H H') (tp : Tup H H') (d : ∀ a ∈ O, a ∉ O2) (dp : p ∉ O2) : PlainAt K H' p S O := by
  obtain ⟨pd, h, dh, n, t, ch, A, C, e, Y, q⟩ := X
  have Y0 := Y
  obtain ⟨_, _, _, _, _, _, _, e7⟩ := Y0
  refine ⟨pd, h, dh, n, t, ch, A, C, s _ _ e dp, HeapX_keep Y tp fun a ha => ?_, q⟩
  obtain ⟨o, e2, _⟩ := e7.tr a ha
  rw [e2]
  exact s a o e2 (d a ha)
theorem PlainAt_tup {K : PySem.W.Frag} {H H' : Hp} {p : Addr} {S : Sta} {O : List Addr} (X : PlainAt K H p S O) (s : Stp O H H') : Tup H H' := by
  obtain ⟨_, _, _, _, _, _, _, _, _, Y, _⟩ := X
  exact HeapX_tup Y s
theorem PlainAt_tr {K : PySem.W.Frag} {H : Hp} {p : Addr} {S : Sta} {O : List Addr} (X : PlainAt K H p S O) : ∀ a ∈ O, H a ≠ none := by
  obtain ⟨_, _, _, _, _, _, _, _, _, Y, _⟩ := X
  obtain ⟨_, _, _, _, _, _, _, e7⟩ := Y
  exact fun a ha => (e7.tr a ha).ne
theorem LawX_tr {H : Hp} {m n l : Addr} {S : Sta} {O : List Addr} {A C : Nat → Addr} (X : LawX H m S O n l A C) : ∀ a ∈ O, H a ≠ none := by
  obtain ⟨_, _, _, _, _, _, _, e7⟩ := X
  exact e7.tr
/-- a list of others' lists changes: no tuple does -/
theorem lists_tup {H H' : Hp} {O : List Addr} (s : Stp O H H') (l : ∀ a ∈ O, ∃ xs, H a = some (.lst xs)) : Tup H H' :=
  ⟨fun a xs e => s a _ e (fun z => by obtain ⟨ys, h⟩ := l a z; rw [h] at e; cases e), fun a xs e => s a _ e (fun z => by obtain ⟨ys, h⟩ := l a z; rw [h] at e; cases e)⟩
def toldT : Told → Tr
  | .val v => vT v
  | .lst ks => .lst (ks.map fun (k : Nat) => Tr.int (k : Int))
theorem rep_told {H : Hp} {r : V} {told : Told} (h : TR H r told) (n : ∀ ks, told = .lst ks → ks.length ≤ 1000) : RepN H 2 r (toldT told) := by
  cases told with
  | val v =>
    cases v with
    | str z =>
      obtain rfl : r = .str z := h
      exact rfl
    | non => exact rep_v (show VR H r .non from h)
    | int i => exact rep_v (show VR H r (.int i) from h)
    | ref k => exact rep_v (show VR H r (.ref k) from h)
    | bl b => exact (show VR H r (.bl b) from h).elim
    | byt b => exact (show VR H r (.byt b) from h).elim
    | flt b => exact (show VR H r (.flt b) from h).elim
    | ty b => exact (show VR H r (.ty b) from h).elim
  | lst ks =>
    obtain ⟨l, rfl, e⟩ := h
    refine ⟨l, _, rfl, e, by rw [List.length_map]; exact n ks rfl, Paired.mapL _ (Paired.mapR _ ?_)⟩
    clear e n
    induction ks with
    | nil => exact .nil
    | cons k r ih => exact .cons rfl ih
theorem srt_one : ∀ {xs ys : List Nat}, xs.Pairwise (· < ·) → ys.Pairwise (· < ·) → (∀ k, k ∈ xs ↔ k ∈ ys) → xs = ys := fun {xs ys} a b h =>
  List.Perm.eq_of_pairwise (le := fun x y => x < y) (fun x y _ _ h1 h2 => absurd h1 (by omega)) a b ((List.perm_ext_iff_of_nodup (a.imp fun h => Nat.ne_of_lt h) (b.imp fun h => Nat.ne_of_lt h)).mpr h)
theorem settle_len0 {S S' : Sta} {ks : List Nat} (h : Settle S ks S') : ks.length ≤ (duesA S).length := by
  induction h with
  | done _ => exact Nat.zero_le _
  | @turn S S' ks hne _ ih =>
    have tl := turn_len (S := S.tellBy (ReachA S))
    rw [tell_dues] at tl
    rw [List.length_append]
    omega
theorem settle_len {S S' : Sta} {ks : List Nat} (h : Settle S ks S') (hm : S.made ≤ 790) : ks.length ≤ 1000 := by
  have h1 := settle_len0 h
  have h2 : (duesA S).length ≤ S.made := by
    have := List.length_filter_le (fun k => (S.th k).last == .due) (List.range S.made)
    rw [List.length_range] at this
    exact this
  omega
theorem stepF_val (S : Sta) (d : Deed) : ∃ v, (stepF S d).2.1 = .val v := by
  cases d <;> simp only [stepF] <;> (try exact ⟨_, rfl⟩) <;> (repeat' split) <;> exact ⟨_, rfl⟩
theorem told_len {S S' : Sta} {d : Deed} {told : Told} {c : Chg} (h : StepR S d S' told c) (hm : S.made ≤ 790) : ∀ ks, told = .lst ks → ks.length ≤ 1000 := fun ks e => by
  cases h with
  | settle s => cases e; exact settle_len s hm
  | other z =>
    obtain ⟨v, hv⟩ := stepF_val S d
    rw [hv] at e
    cases e
end WK
namespace WK
open PySem PySem.Spec PyProof.Rows L2 He WB
section
variable {P : Program} {w : World} {K : PySem.W.Frag} {mg : Str → Option Value} {base : Heap}
/-- both stand for S -/
structure LI (K : PySem.W.Frag) (H : Hp) (h ls p m : Addr) (S : Sta) (OP OL : List Addr) (n l : Addr) (A C : Nat → Addr) : Prop where
  num : NumAt H h ls
  pl : PlainAt K H p S OP
  lw : LawX H m S OL n l A C
  ok : WB.Ok S
  hP : h ∉ OP
  lP : ls ∉ OP
  hL : h ∉ OL
  lL : ls ∉ OL
  pL : p ∉ OL
  dj : ∀ b ∈ OP, b ∉ OL
section
variable {H H' : Hp} {h ls p m : Addr} {S : Sta} {OP OL : List Addr} {n l : Addr} {A C : Nat → Addr}
theorem LI.same (s : Same H H') (x : LI K H h ls p m S OP OL n l A C) : LI K H' h ls p m S OP OL n l A C :=
  ⟨x.num.same s, x.pl.same s, x.lw.same s, x.ok, x.hP, x.lP, x.hL, x.lL, x.pL, x.dj⟩
theorem LI.other {O2 : List Addr} (s : Stp O2 H H') (tp : Tup H H') (d : ∀ a ∈ O2, a ∉ OP ∧ a ∉ OL ∧ a ≠ h ∧ a ≠ ls ∧ a ≠ p) (x : LI K H h ls p m S OP OL n l A C) : LI K H' h ls p m S OP OL n l A C :=
  ⟨x.num.stp s (fun z => (d _ z).2.2.1 rfl) (fun z => (d _ z).2.2.2.1 rfl), PlainAt_stp x.pl s tp (fun a ha z => (d a z).1 ha) (fun z => (d _ z).2.2.2.2 rfl), x.lw.stp s tp fun a ha z => (d a z).2.1 ha, x.ok, x.hP, x.lP, x.hL, x.lL, x.pL, x.dj⟩
/-- what is new is none of theirs -/
theorem LI.new (x : LI K H h ls p m S OP OL n l A C) {a : Addr} (ha : H a = none) : a ∉ OP ∧ a ∉ OL ∧ a ≠ h ∧ a ≠ ls ∧ a ≠ p := by
  refine ⟨fun z => PlainAt_tr x.pl a z ha, fun z => LawX_tr x.lw a z ha, ?_, ?_, ?_⟩
  · rintro rfl
    obtain ⟨_, _, _, e, _⟩ := x.num
    rw [e] at ha; cases ha
  · rintro rfl
    obtain ⟨_, _, _, _, e, _⟩ := x.num
    rw [e] at ha; cases ha
  · rintro rfl
    obtain ⟨_, _, _, _, _, _, _, _, e, _⟩ := x.pl
    rw [e] at ha; cases ha
end
theorem LI.stpP {H H' : Hp} {h ls p m : Addr} {S : Sta} {OP OL : List Addr} {n l : Addr} {A C : Nat → Addr} (x : LI K H h ls p m S OP OL n l A C) (s : StpP H H') (y : LawX H' m S OL n l A C) : LI K H' h ls p m S OP OL n l A C := by
  obtain ⟨_, _, _, _, _, _, _, e7⟩ := id x.lw
  have st : Stp [tabP] H H' := fun a o e n => s a o e fun z => n (z ▸ List.mem_cons_self)
  have nt : ∀ {a}, a ∈ OL → ∀ b, b ∉ OL → b ∉ [a] := fun {a} ha b hb z => hb (List.mem_singleton.mp z ▸ ha)
  refine ⟨x.num.stp st (nt e7.tO _ x.hL) (nt e7.tO _ x.lL), PlainAt_stp x.pl st (StpP.tup e7.tb s) (fun a ha => nt e7.tO _ (x.dj a ha)) (nt e7.tO _ x.pL), y, x.ok, x.hP, x.lP, x.hL, x.lL, x.pL, x.dj⟩
theorem LI.draw {H H' : Hp} {h ls p m : Addr} {S : Sta} {OP OL : List Addr} {n l : Addr} {A C : Nat → Addr} (x : LI K H h ls p m S OP OL n l A C) (s : Stp [h, ls] H H') (y : NumAt H' h ls) : LI K H' h ls p m S OP OL n l A C := by
  have tp := NumAt_tup x.num s
  have two : ∀ {a}, a ≠ h → a ≠ ls → a ∉ [h, ls] := fun h1 h2 z => (List.mem_cons.mp z).elim h1 fun z => h2 (List.mem_singleton.mp z)
  have np : p ≠ h ∧ p ≠ ls := by
    obtain ⟨_, _, _, _, _, _, _, _, e, _⟩ := x.pl
    obtain ⟨_, _, _, e1, e2, _⟩ := x.num
    exact ⟨(fun z => by rw [z, e1] at e; cases e), (fun z => by rw [z, e2] at e; cases e)⟩
  exact ⟨y, PlainAt_stp x.pl s tp (fun a ha => two (fun z => x.hP (z ▸ ha)) (fun z => x.lP (z ▸ ha))) (two np.1 np.2), x.lw.stp s tp fun a ha => two (fun z => x.hL (z ▸ ha)) (fun z => x.lL (z ▸ ha)), x.ok, x.hP, x.lP, x.hL, x.lL, x.pL, x.dj⟩
theorem ok0 : WB.Ok S0 := by
  refine ⟨by show (nmS.map fun x => ((Sum.inr x : Key), V.non)).map (fun p => p.1) = nmS.map Sum.inr; rw [List.map_map]; rfl, fun p hp => ?_, fun k hk => absurd hk (Nat.not_lt_zero _), fun k hk => absurd hk (Nat.not_lt_zero _), fun k hk => absurd hk (Nat.not_lt_zero _), fun k hk => absurd hk (Nat.not_lt_zero _)⟩
  obtain ⟨x, _, rfl⟩ := List.mem_map.mp hp
  exact trivial
/-- one deed, done by both -/
theorem LI.done {H7 H8 H9 : Hp} {h ls p m : Addr} {S S2 S3 : Sta} {OP OL OL2 OP3 : List Addr} {n l : Addr} {A C A2 C2 : Nat → Addr} {d : Deed} {told told' : Told} {chg chg' : Chg} (L7 : LI K H7 h ls p m S OP OL n l A C) (dok : d.ok) (sr : StepR S d S2 told chg) (st8 : Stp OL H7 H8) (tp8 : Tup H7 H8) (fr8 : Frs OL OL2 H7)
    (X8 : LawX H8 m S2 OL2 n l A2 C2) (sr' : StepR S d S3 told' chg') (st9 : Stp OP H8 H9) (fr9 : Frs OP OP3 H8) (P9 : PlainAt K H9 p S3 OP3) : LI K H9 h ls p m S2 OP3 OL2 n l A2 C2 ∧ told' = told ∧ (S2.made = S.made ∨ S2.made = S.made + 1) := by
  have P8 := PlainAt_stp L7.pl st8 tp8 L7.dj L7.pL
  have num8 := L7.num.stp st8 L7.hL L7.lL
  obtain ⟨eS, eT, eC⟩ := sr.one sr'
  subst eS eT eC
  have tp9 := PlainAt_tup P8 st9
  have trP7 := PlainAt_tr L7.pl
  have dj2 : ∀ b ∈ OL2, b ∉ OP := fun b hb z => (fr8 b hb).elim (fun y => L7.dj b z y) fun y => trP7 b z y
  have X9 := X8.stp st9 tp9 dj2
  obtain ⟨ok9, made9⟩ := L7.ok.step dok sr
  have trL8 := LawX_tr X8
  have OP3n : ∀ b ∈ OP3, b ∉ OL2 := fun b hb z => (fr9 b hb).elim (fun y => dj2 b z y) fun y => trL8 b z y
  have new8 : ∀ {b : Addr}, H8 b ≠ none → b ∉ OP → b ∉ OP3 := fun hb hn z => (fr9 _ z).elim hn fun y => hb y
  have new7 : ∀ {b : Addr}, H7 b ≠ none → b ∉ OL → b ∉ OL2 := fun hb hn z => (fr8 _ z).elim hn fun y => hb y
  obtain ⟨_, _, _, eh7, el7, _⟩ := id L7.num
  obtain ⟨_, _, _, eh8, el8, _⟩ := id num8
  obtain ⟨_, _, _, _, _, _, _, _, ep7, _⟩ := id L7.pl
  exact ⟨⟨num8.stp st9 L7.hP L7.lP, P9, X9, ok9, new8 (by rw [eh8]; intro z; cases z) L7.hP, new8 (by rw [el8]; intro z; cases z) L7.lP, new7 (by rw [eh7]; intro z; cases z) L7.hL, new7 (by rw [el7]; intro z; cases z) L7.lL, new7 (by rw [ep7]; intro z; cases z) L7.pL, OP3n⟩, rfl, made9⟩
/-- the start of both -/
theorem LI.start {H1 HA H2 H3 : Hp} {h ls p m n l dp : Addr} {OP : List Addr} (num : NumAt H1 h ls) (tb : LamX.TabS H1 tabP lamQ) (sP : Same H1 HA) (gp : HA p = some (.ins (ga K "Plain") dp [])) (np : H1 p = none) (stp : Stp [p] HA H2) (fr : ∀ a ∈ OP, HA a = none) (P2 : PlainAt K H2 p S0 OP) (s3 : Same H2 H3) (nm : H2 m = none) (nn : H2 n = none) (nl : H2 l = none)
    (X3 : LawX H3 m S0 [m, n, l, tabP] n l (fun _ => 0) (fun _ => 0)) : LI K H3 h ls p m S0 OP [m, n, l, tabP] n l (fun _ => 0) (fun _ => 0) := by
  have tbA : LamX.TabS HA tabP lamQ := tb.ext sP
  obtain ⟨ps0, e0, _⟩ := id tbA
  have ntp : tabP ≠ p := fun z => by
    rw [z, gp] at e0; cases e0
  have numA := num.same sP
  obtain ⟨_, _, _, eh, el, _⟩ := id numA
  have nhp : h ≠ p := fun z => by rw [z, gp] at eh; cases eh
  have nlp : ls ≠ p := fun z => by rw [z, gp] at el; cases el
  have num2 : NumAt H2 h ls := numA.stp stp (fun z => nhp (List.mem_singleton.mp z)) (fun z => nlp (List.mem_singleton.mp z))
  have hOP : h ∉ OP := fun z => by rw [fr h z] at eh; cases eh
  have lOP : ls ∉ OP := fun z => by rw [fr ls z] at el; cases el
  have tOP : tabP ∉ OP := fun z => by rw [fr _ z] at e0; cases e0
  have et : H2 tabP = some (.tbl ps0) := stp _ _ e0 fun z => ntp (List.mem_singleton.mp z)
  have four : ∀ b, H2 b ≠ none → b ≠ tabP → b ∉ [m, n, l, tabP] := fun b hb ht z => by
    rcases List.mem_cons.mp z with rfl | z
    · exact hb nm
    · rcases List.mem_cons.mp z with rfl | z
      · exact hb nn
      · rcases List.mem_cons.mp z with rfl | z
        · exact hb nl
        · exact ht (List.mem_singleton.mp z)
  obtain ⟨_, _, _, eh2, el2, _⟩ := id num2
  obtain ⟨_, _, _, _, _, _, _, _, ep2, _⟩ := id P2
  exact ⟨num2.same s3, P2.same s3, X3, ok0, hOP, lOP, four h (by rw [eh2]; intro z; cases z) (fun z => by rw [z, et] at eh2; cases eh2), four ls (by rw [el2]; intro z; cases z) (fun z => by rw [z, et] at el2; cases el2), four p (by rw [ep2]; intro z; cases z) (fun z => by rw [z, et] at ep2; cases ep2), fun b hb => four b (PlainAt_tr P2 b hb) fun z => tOP (z ▸ hb)⟩
/-- the table behind the making of the plain run -/
theorem tab_start {HA H2 : Hp} {p dp : Addr} (gp : HA p = some (.ins (ga K "Plain") dp [])) (stp : Stp [p] HA H2) (tbA : LamX.TabS HA tabP lamQ) : LamX.TabS H2 tabP lamQ := by
  have tpA : Tup HA H2 := ⟨fun b ys e => stp _ _ e (fun z => by rw [List.mem_singleton.mp z, gp] at e; cases e), fun b ys e => stp _ _ e (fun z => by rw [List.mem_singleton.mp z, gp] at e; cases e)⟩
  obtain ⟨ps, e, r⟩ := id tbA
  exact TabS_moved tbA tpA (by rw [e]; exact stp _ _ e fun z => by rw [← List.mem_singleton.mp z, e] at gp; cases gp)
/-- the two photos are alike -/
theorem LI.put {H : Hp} {h ls p m : Addr} {S : Sta} {OP OL : List Addr} {n l : Addr} {A C : Nat → Addr} (x : LI K H h ls p m S OP OL n l A C) {a : Addr} {xs : List V} (o : HO) (ha : H a = some (.lst xs)) (f : a ∉ OP ∧ a ∉ OL ∧ a ≠ h ∧ a ≠ ls ∧ a ≠ p) : LI K (upd H a o) h ls p m S OP OL n l A C :=
  x.other (O2 := [a]) (Stp.upd (.inl List.mem_cons_self)) (tup_upd (fun u e => by rw [ha] at e; cases e; rfl)) fun b hb => List.mem_singleton.mp hb ▸ f
theorem pair_left {α β : Type} {R : α → β → Prop} : ∀ {xs : List α} {ys : List β}, Paired R xs ys → ∀ {x}, x ∈ xs → ∃ y ∈ ys, R x y
  | _, _, .nil, _, h => by cases h
  | _, _, .cons r t, x, h => by
    rcases List.mem_cons.mp h with rfl | h
    · exact ⟨_, List.mem_cons_self, r⟩
    · obtain ⟨y, m, z⟩ := pair_left t h
      exact ⟨y, List.mem_cons_of_mem _ m, z⟩
theorem if_rest {c : TT} {t u : TS} {D : Ends} {rt : VK} {bk ct : L2.St → Hp → Prop} {σ : L2.St} {H : Hp} (Z : Hp → Prop) (g : ∀ nx : L2.St → Hp → Prop, (∀ H12, Z H12 → nx σ H12) → c σ H fun b H1 => if b = true then t { D with nx := nx } σ H1 else nx σ H1) (h : ∀ H12, Z H12 → u D σ H12) : tNext ⟨tSeq (tIfS c t tNext) u D, rt, bk, ct⟩ σ H := g _ h
/-- a told thing's list of parts: new, not very long -/
def PL (N : Addr → Prop) (H : Hp) (t : Addr) (b : Nat) : Prop := ∃ (x1 x2 x4 : V) (lp : Addr), H t = some (.tup [x1, x2, .ref lp, x4]) ∧ N lp ∧ ∃ xs, H lp = some (.lst xs) ∧ xs.length ≤ b
theorem PL.same {N : Addr → Prop} {H H' : Hp} {t : Addr} {b b' : Nat} (s : Same H H') (hb : b ≤ b') (h : PL N H t b) : PL N H' t b' := by
  obtain ⟨x1, x2, x4, lp, e, n, xs, e2, l⟩ := h
  exact ⟨x1, x2, x4, lp, s _ _ e, n, xs, s _ _ e2, Nat.le_trans l hb⟩
theorem PL.put {N : Addr → Prop} {H : Hp} {t a : Addr} {b : Nat} {xs : List V} {y : V} (ha : H a = some (.lst xs)) (hl : xs.length ≤ b) (h : PL N H t b) : PL N (upd H a (.lst (xs ++ [y]))) t (b + 1) := by
  obtain ⟨x1, x2, x4, lp, e, n, ys, e2, l⟩ := h
  have n1 : t ≠ a := fun z => by rw [z, ha] at e; cases e
  refine ⟨x1, x2, x4, lp, by rw [upd_ne n1]; exact e, n, ?_⟩
  by_cases z : lp = a
  · refine ⟨_, by rw [z, upd_same], ?_⟩
    rw [List.length_append]
    exact Nat.add_le_add_right hl 1
  · exact ⟨ys, by rw [upd_ne z]; exact e2, Nat.le_succ_of_le l⟩
/-- a value that is told: a list, new and nobody's, or none -/
theorem told_two {H0 H : Hp} {O : List Addr} {r : V} {told : Told} (t : TRF H0 O H r told) (len : ∀ ks, told = .lst ks → ks.length ≤ 1000) : (∃ a xs, r = .ref a ∧ H a = some (.lst xs) ∧ xs.length ≤ 1000 ∧ H0 a = none ∧ a ∉ O) ∨ r = .non ∨ (∃ z, r = .str z) ∨ (∃ i, r = .int i) ∨ ∃ a xs, r = .ref a ∧ H a = some (.tup xs) := by
  obtain ⟨t1, t2⟩ := t
  cases told with
  | lst ks =>
    obtain ⟨a, rfl, e⟩ := t1
    obtain ⟨b, eb, g⟩ := t2
    cases eb
    exact .inl ⟨a, _, rfl, e, by rw [show (nV ks).length = ks.length from List.length_map _]; exact len ks rfl, g⟩
  | val v =>
    cases v with
    | str z => exact .inr (.inr (.inl ⟨z, t1⟩))
    | non => exact .inr (.inl (show VR H r .non from t1))
    | int i => exact .inr (.inr (.inr (.inl ⟨i, (show VR H r (.int i) from t1)⟩)))
    | ref k => obtain ⟨a, e1, e2⟩ := (show VR H r (.ref k) from t1); exact .inr (.inr (.inr (.inr ⟨a, _, e1, e2⟩)))
    | bl b => exact (show VR H r (.bl b) from t1).elim
    | byt b => exact (show VR H r (.byt b) from t1).elim
    | flt b => exact (show VR H r (.flt b) from t1).elim
    | ty b => exact (show VR H r (.ty b) from t1).elim
def spLaw (K : PySem.W.Frag) : Sp := fun vs H Q _ => ∃ (a : Addr) (xs : List Int), vs = [.ref a] ∧ SqL K H a (xs.map V.int) ∧ xs.length ≤ 100 ∧ LamX.TabS H tabP lamQ ∧ ∀ H', Q (.bl true) H'
theorem fn_mk {x qual : Str} {pa : Arguments} {body : List Stmt} {sc : Scope} {f : Addr} {fd : FuncData} {N ps : List Str} {k : Nat} {sp : Sp} (F : FunD K x qual pa body sc [] [] f fd) (S : FnScope N ps sc) (len : ∀ vs H Q E, sp vs H Q E → vs.length = ps.length)
    (hbody : ∀ (cdv : Value) (A : Around) (outer : List Env) (s : Shared) (H : Hp) (vs : List V) (Q : VK) (E : XK), Room k (A.deeper (envOfC qual sc s.heap.objs.size f cdv)) → sp vs H Q E →
      ∃ t, PSs (cxOf CX0 P w K mg base N qual sc f cdv A outer s H E).nox body t ∧ t { nx := fun _ H' => Q .non H', rt := Q } (start N vs) H) : FnOk P w K mg base CX0 (k + 1) f fd ps sp := by
  refine F.ok S len fun cdv A outer s H vs Q E hr h => ?_
  obtain ⟨t, p, q⟩ := hbody cdv A outer s H vs Q E hr h
  exact ⟨t, p.nox, q⟩
end
end WK
namespace WK
open PySem PySem.Spec PyProof.Rows L2 He WB
section
variable {P : Program} {w : World} {K : PySem.W.Frag} {mg : Str → Option Value} {base : Heap}
theorem pair_right {α β : Type} {R : α → β → Prop} : ∀ {xs : List α} {ys : List β}, Paired R xs ys → ∀ {y}, y ∈ ys → ∃ x ∈ xs, R x y
  | _, _, .nil, _, h => by cases h
  | _, _, .cons r t, y, h => by
    rcases List.mem_cons.mp h with rfl | h
    · exact ⟨_, List.mem_cons_self, r⟩
    · obtain ⟨x, m, z⟩ := pair_right t h
      exact ⟨x, List.mem_cons_of_mem _ m, z⟩
/-- deeds, one behind another -/
inductive Runs (S : Sta) : List Deed → List Told → Sta → Prop
  | nil : Runs S [] [] S
  | snoc {ds : List Deed} {ts : List Told} {S1 S2 : Sta} {d : Deed} {t : Told} {c : Chg} : Runs S ds ts S1 → StepR S1 d S2 t c → Runs S (ds ++ [d]) (ts ++ [t]) S2
theorem Runs.one {S S1 : Sta} {ds : List Deed} {ts : List Told} (a : Runs S ds ts S1) : ∀ {ts' : List Told} {S2 : Sta}, Runs S ds ts' S2 → ts = ts' ∧ S1 = S2 := by
  induction a with
  | nil =>
    intro ts' S2 b
    generalize e : ([] : List Deed) = xs at b
    cases b with
    | nil => exact ⟨rfl, rfl⟩
    | snoc _ _ => simp at e
  | @snoc ds ts S1 S2 d t c _ st ih =>
    intro ts' S3 b
    generalize e : ds ++ [d] = xs at b
    cases b with
    | nil => simp at e
    | @snoc ds' ts2 S1' _ d' t' c' r' st' =>
      obtain ⟨e1, e2⟩ := List.append_inj' e rfl
      cases e2
      subst e1
      obtain ⟨rfl, rfl⟩ := ih r'
      obtain ⟨rfl, rfl, _⟩ := st.one st'
      exact ⟨rfl, rfl⟩
theorem Runs.ok {S S1 : Sta} {ds : List Deed} {ts : List Told} (a : Runs S ds ts S1) (o : WB.Ok S) (hd : ∀ d ∈ ds, d.ok) : WB.Ok S1 ∧ S1.made ≤ S.made + ds.length := by
  induction a with
  | nil => exact ⟨o, by simp⟩
  | @snoc ds ts S1 S2 d t c _ st ih =>
    obtain ⟨o1, l1⟩ := ih fun d h => hd d (List.mem_append_left _ h)
    obtain ⟨o2, l2⟩ := o1.step (hd d (by simp)) st
    exact ⟨o2, by rw [List.length_append, List.length_singleton]; omega⟩
theorem Runs.len {S S1 : Sta} {ds : List Deed} {ts : List Told} (a : Runs S ds ts S1) : ts.length = ds.length := by
  induction a with
  | nil => rfl
  | snoc _ _ ih => rw [List.length_append, List.length_append, ih]; rfl
/-- all told lists are short -/
theorem Runs.told {S S1 : Sta} {ds : List Deed} {ts : List Told} (a : Runs S ds ts S1) (o : WB.Ok S) (hd : ∀ d ∈ ds, d.ok) (hm : S.made + ds.length ≤ 790) : ∀ t ∈ ts, ∀ ks, t = .lst ks → ks.length ≤ 1000 := by
  induction a with
  | nil => intro t h; cases h
  | @snoc ds ts S1 S2 d t c r st ih =>
    rw [List.length_append, List.length_singleton] at hm
    have hd' : ∀ d ∈ ds, d.ok := fun d h => hd d (List.mem_append_left _ h)
    obtain ⟨_, l1⟩ := r.ok o hd'
    intro u hu
    rcases List.mem_append.mp hu with hu | hu
    · exact ih hd' (by omega) u hu
    · rw [List.mem_singleton.mp hu]
      exact told_len st (by omega)
/-- what is told, its list (if it is one) as N says -/
def TLn (N : Addr → Prop) (r : V) : Told → Prop
  | .lst _ => ∃ l, r = .ref l ∧ N l
  | .val _ => True
def TRN (N : Addr → Prop) (H : Hp) (r : V) (t : Told) : Prop := TR H r t ∧ TLn N r t
theorem TRN.step {N N' : Addr → Prop} {H H' : Hp} {r : V} {t : Told} (tp : Tup H H') (kp : ∀ l ys, N l → H l = some (.lst ys) → H' l = some (.lst ys) ∧ N' l) (h : TRN N H r t) : TRN N' H' r t := by
  obtain ⟨h1, h2⟩ := h
  cases t with
  | lst ks =>
    obtain ⟨l, rfl, e⟩ := h1
    obtain ⟨l', e', n⟩ := h2
    cases e'
    obtain ⟨k1, k2⟩ := kp l _ n e
    exact ⟨⟨l, rfl, k1⟩, l, rfl, k2⟩
  | val v =>
    refine ⟨?_, trivial⟩
    cases v with
    | str z => exact h1
    | non => exact VR.mono tp (show VR H r .non from h1)
    | int i => exact VR.mono tp (show VR H r (.int i) from h1)
    | ref k => exact VR.mono tp (show VR H r (.ref k) from h1)
    | bl b => exact (show VR H r (.bl b) from h1).elim
    | byt b => exact (show VR H r (.byt b) from h1).elim
    | flt b => exact (show VR H r (.flt b) from h1).elim
    | ty b => exact (show VR H r (.ty b) from h1).elim
theorem TRN.of {N : Addr → Prop} {H0 H : Hp} {O : List Addr} {r : V} {t : Told} (h : TRF H0 O H r t) (n : ∀ l, H0 l = none → l ∉ O → N l) : TRN N H r t := by
  obtain ⟨h1, h2⟩ := h
  refine ⟨h1, ?_⟩
  cases t with
  | lst ks =>
    obtain ⟨l, rfl, a, b⟩ := h2
    exact ⟨l, rfl, n l a b⟩
  | val v => trivial
theorem rep_tolds {H : Hp} {a : Addr} {rs : List V} {ts : List Told} (e : H a = some (.lst rs)) (hp : Paired (TR H) rs ts) (l : ts.length ≤ 1000) (n : ∀ t ∈ ts, ∀ ks, t = .lst ks → ks.length ≤ 1000) : RepN H 3 (.ref a) (.lst (ts.map toldT)) := by
  refine ⟨a, _, rfl, e, by rw [List.length_map]; exact l, Paired.mapR _ ?_⟩
  clear e l
  induction hp with
  | nil => exact .nil
  | cons h _ ih => exact .cons (rep_told h (n _ List.mem_cons_self)) (ih fun t ht => n t (List.mem_cons_of_mem _ ht))
def spRun (K : PySem.W.Frag) : Sp := fun vs H Q _ => ∃ (a : Addr) (ps : List Addr) (ds : List Deed), vs = [.ref a] ∧ H a = some (.lst (ps.map V.ref)) ∧ Paired (DeedAt H) ps ds ∧ ps.length ≤ 120 ∧
  ∀ r H' rs ts S', Runs S0 ds ts S' → Same H H' → H r = none → H' r = some (.lst rs) → Paired (TRN (fun l => H l = none ∧ l ≠ r) H') rs ts → Q (.ref r) H'
end
end WK
namespace WK
open PySem PySem.Spec PyProof.Rows L2 He WB
section
variable {P : Program} {w : World} {K : PySem.W.Frag} {mg : Str → Option Value} {base : Heap}
def argD : V → PyData
  | .int i => .int i
  | .str x => .str x
  | _ => .none
def goodD : V → Bool
  | .int _ => true
  | .str x => PyData.strOk x
  | .non => true
  | _ => false
theorem good_nm : ∀ z ∈ nmS, PyData.strOk z = true := by decide +kernel
theorem good_part {k : Key} (h : PartOk k) : goodD (kV k) = true := by
  cases k with
  | inl i => rfl
  | inr z => exact (show ∀ z ∈ lets, PyData.strOk z = true by decide +kernel) z h
theorem deed_good (d : Deed) (hd : d.ok) : ∀ v ∈ V.str d.word :: d.args, goodD v = true := by
  have nm : ∀ {z : Str}, z ∈ nmS → goodD (.str z) = true := fun h => good_nm _ h
  intro v hv
  rcases List.mem_cons.mp hv with rfl | hv
  · exact (show ∀ i : Fin 12, PyData.strOk (wordsS.getD i "") = true by decide +kernel) ⟨d.tag, by cases d <;> exact Nat.le_of_ble_eq_true rfl⟩
  · cases d <;> simp only [Deed.args, List.mem_cons, List.not_mem_nil, or_false] at hv
    · obtain ⟨h1, h2⟩ := hd
      rcases hv with rfl | rfl
      · exact nm h1
      · exact (show ∀ z ∈ (["record", "row", "book"] : List Str), PyData.strOk z = true by decide +kernel) _ h2
    · rcases hv with rfl | rfl
      · exact nm hd.1
      · rfl
    · rcases hv with rfl | rfl
      · exact nm hd.1
      · exact nm hd.2
    · rw [hv]; exact nm hd
    · rcases hv with rfl | rfl | rfl
      · exact nm hd.1
      · exact good_part hd.2.1
      · exact nm hd.2.2
    · rcases hv with rfl | rfl | rfl
      · exact nm hd.1
      · exact nm hd.2.1
      · exact good_part hd.2.2
    · rcases hv with rfl | rfl
      · exact nm hd.1
      · exact good_part hd.2
    · rcases hv with rfl | rfl
      · exact nm hd.1
      · exact nm hd.2
    · rcases hv with rfl | rfl
      · exact nm hd.1
      · rcases hd.2 with rfl | ⟨x, hx, rfl⟩
        · rfl
        · exact nm hx
    · rcases hv with rfl | rfl
      · exact nm hd.1
      · exact nm hd.2
    · rw [hv]; exact nm hd
theorem args_dp {H : Hp} : ∀ {xs : List V}, (∀ v ∈ xs, goodD v = true) → DpAll K H xs (xs.map argD)
  | [], _ => .nil
  | v :: r, h => by
    have t := args_dp (H := H) fun v hv => h v (List.mem_cons_of_mem _ hv)
    have := h v List.mem_cons_self
    cases v with
    | non => exact .cons .non t
    | int i => exact .cons (.int i) t
    | str x => exact .cons (.str x) t
    | _ => cases this
theorem args_lay : ∀ {xs : List V}, (∀ v ∈ xs, goodD v = true) → PyData.canLayAll0 (xs.map argD) = true ∧ PyData.depthAll (xs.map argD) = 0
  | [], _ => ⟨by simp [PyData.canLayAll0], by simp [PyData.depthAll]⟩
  | v :: r, h => by
    obtain ⟨t1, t2⟩ := args_lay fun v hv => h v (List.mem_cons_of_mem _ hv)
    have := h v List.mem_cons_self
    cases v with
    | non => exact ⟨by simp [PyData.canLayAll0, PyData.canLay0, argD, t1], by simp [PyData.depthAll, PyData.depth, argD, t2]⟩
    | int i => exact ⟨by simp [PyData.canLayAll0, PyData.canLay0, argD, t1], by simp [PyData.depthAll, PyData.depth, argD, t2]⟩
    | str x =>
      have e : PyData.strOk x = true := this
      exact ⟨by simp [PyData.canLayAll0, PyData.canLay0, argD, t1, e], by simp [PyData.depthAll, PyData.depth, argD, t2]⟩
    | _ => cases this
def deedD (d : Deed) : PyData := .tuple ((V.str d.word :: d.args).map argD)
theorem deeds_dp {H : Hp} : ∀ {ps : List Addr} {ds : List Deed}, Paired (DeedAt H) ps ds → DpAll K H (ps.map V.ref) (ds.map deedD)
  | _, _, .nil => .nil
  | _, _, .cons h t => .cons (.tup (SqT.of h.2) (args_dp (deed_good _ h.1))) (deeds_dp t)
theorem deeds_lay : ∀ {ds : List Deed}, (∀ d ∈ ds, d.ok) → PyData.canLayAll0 (ds.map deedD) = true ∧ PyData.depthAll (ds.map deedD) ≤ 1
  | [], _ => ⟨by simp [PyData.canLayAll0], by simp [PyData.depthAll]⟩
  | d :: r, h => by
    obtain ⟨t1, t2⟩ := deeds_lay fun d hd => h d (List.mem_cons_of_mem _ hd)
    obtain ⟨a1, a2⟩ := args_lay (deed_good d (h d List.mem_cons_self))
    refine ⟨?_, ?_⟩
    · rw [List.map_cons]
      simp only [PyData.canLayAll0, deedD, PyData.canLay0]
      rw [a1]; exact t1
    · rw [List.map_cons]
      simp only [PyData.depthAll, deedD, PyData.depth]
      rw [a2]
      have : PyData.depthAll (List.map (fun d => PyData.tuple ((V.str d.word :: d.args).map argD)) r) ≤ 1 := t2
      omega
theorem deeds_shaped {ds : List Deed} (h : ∀ d ∈ ds, d.ok) : SeqAt.shaped (.list (ds.map deedD)) = true := by
  obtain ⟨t1, t2⟩ := deeds_lay h
  show (PyData.canLay0 (.list (ds.map deedD)) && decide (PyData.depth (.list (ds.map deedD)) ≤ 64)) = true
  rw [Bool.and_eq_true]
  refine ⟨by simp only [PyData.canLay0]; exact t1, decide_eq_true ?_⟩
  simp only [PyData.depth]; omega
theorem deeds_eqv {ds : List Deed} (h : ∀ d ∈ ds, d.ok) : PyData.eqv (.list (ds.map deedD)) (.list (ds.map deedD)) = true :=
  SeqAt.eqv_refl _ (by simp only [PyData.canLay0]; exact (deeds_lay h).1)
theorem nil_eqv (ds : List PyData) : PyData.eqv (.list ds) (.list []) = ds.isEmpty := by
  cases ds <;> simp [PyData.eqv, PyData.eqvAll]
theorem nil_shaped : SeqAt.shaped (.list []) = true := ints_shaped []
theorem keys_good {ks : List Key} (h : ∀ z ∈ ks, PartOk z) : ∀ v ∈ ks.map kV, goodD v = true := fun v hv => by
  obtain ⟨z, hz, rfl⟩ := List.mem_map.mp hv
  exact good_part (h z hz)
theorem args_shaped {xs : List V} (h : ∀ v ∈ xs, goodD v = true) : SeqAt.shaped (.list (xs.map argD)) = true := by
  obtain ⟨t1, t2⟩ := args_lay h
  show (PyData.canLay0 (.list (xs.map argD)) && decide (PyData.depth (.list (xs.map argD)) ≤ 64)) = true
  rw [Bool.and_eq_true]
  refine ⟨by simp only [PyData.canLay0]; exact t1, decide_eq_true ?_⟩
  simp only [PyData.depth]; omega
end
end WK
/-! list(zip(xs, ys)) of a tuple and a list of one length: a new list of new pairs. -/
namespace WB
open PySem PySem.Calls PyProof.Rows PyProof.V PySem.Spec L2 He PySem.W
section
variable {prog : Program} {w : World} {A : Around} {E : Value → Shared → Prop} {s : Shared} {z TI TO i1 i2 n1 n2 i : Nat} {fp1 fp2 : List Addr} {P1 P2 : Nat → Value → Prop} {St1 St2 : Nat → Heap → Prop}
theorem zm_next_held {T : Addr} {f : Bool} {oT : Obj} {Q : Value → Shared → Prop} (S : ZipSep2 z TI TO i1 i2 fp1 fp2) (D1 : Draws prog w A i1 fp1 n1 P1 St1) (D2 : Draws prog w A i2 fp2 n2 P2 St2)
    (hz : IsZipHeld s.heap z TI TO T f) (hT : s.heap.get? T = some oT) (hTI : IsTupOf2 s.heap TI (.ref i1) (.ref i2)) (st1 : St1 i s.heap) (st2 : St2 i s.heap) (hlt1 : i < n1) (hlt2 : i < n2)
    (hQ : ∀ x1 x2 h' tk, P1 i x1 → P2 i x2 → IsZipHeld h' z TI TO T true → St1 (i + 1) h' → St2 (i + 1) h' → IsTupOf2 h' s.heap.objs.size x1 x2 → h'.objs.size = s.heap.objs.size + 1 →
      (∀ c o, c ≠ z → c ≠ i1 → c ≠ i2 → s.heap.get? c = some o → h'.get? c = some o) → Q (.ref s.heap.objs.size) { s with heap := h', toks := tk }) :
    wpAny (model prog w) A (Builtin.«zip.__next__» ⟨[.ref z], []⟩) (fun fin s' => ∃ v, fin = .done (.ret v) ∧ Q v s') E s := by
  obtain ⟨hp, g, d, tk0, os⟩ := s
  show wpAny _ _ (field (.ref z) 2 >>= _) _ _ _
  refine wpAny_bind (wpAny_field hz rfl (x := .bool false) rfl ?_)
  show wpAny _ _ (field (.ref z) 3 >>= _) _ _ _
  refine wpAny_bind (wpAny_field hz rfl (x := .ref TI) rfl ?_)
  refine wpAny_bind (wpAny_seqItems hTI rfl ?_)
  show wpAny _ _ (Builtin.SmallTypes.ownedTupleIsFree (.ref z) >>= _) _ _ _
  refine wpAny_bind (wpAny_tupleHeld_zip hz hT fun g0 hz0 hs0 => ?_)
  replace hs0 : Heap.SameBut z hp g0 := hs0
  simp only [Bool.false_eq_true, if_false]
  refine wpAny_bind ?_
  rw [← Array.forIn_toList]
  simp only [List.forIn_cons, List.forIn_nil]
  refine wpAny_bind (wpAny_bind (wpAny_holding ?_))
  show wpAny _ _ (Builtin.SmallTypes.nextOf (.ref i1) >>= _) _ _ ⟨g0, g, d, tk0, os⟩
  refine wpAny_bind (D1.item i _ _ _ hlt1 (D1.over st1 hs0 S.zf1) fun x1 p1 tk1 hx1 sn1 hp1 => wpAny_pure ?_)
  replace hp1 : Heap.SameBut i1 g0 p1 := hp1
  refine wpAny_pure ?_
  refine wpAny_bind (wpAny_bind (wpAny_holding ?_))
  show wpAny _ _ (Builtin.SmallTypes.nextOf (.ref i2) >>= _) _ _ ⟨p1, g, d, tk1, os⟩
  refine wpAny_bind (D2.item i _ _ _ hlt2 (D2.over (D2.over st2 hs0 S.zf2) hp1 S.sep1_2) fun x2 p2 tk2 hx2 sn2 hp2 => wpAny_pure ?_)
  replace hp2 : Heap.SameBut i2 p1 p2 := hp2
  refine wpAny_pure (wpAny_pure ?_)
  show wpAny _ _ (newTuple [x1, x2] >>= _) _ _ _
  refine wpAny_bind (wpAny_newTuple ?_)
  have hsz : p2.objs.size = hp.objs.size := by rw [hp2.1, hp1.1, hs0.1]
  have hz₃ : IsZipHeld p2 z TI TO T true := hp2.extBut _ _ S.zi2 (hp1.extBut _ _ S.zi1 hz0)
  have hk : ∀ c o, c ≠ z → c ≠ i1 → c ≠ i2 → hp.get? c = some o → p2.get? c = some o := fun c o c1 c2 c3 e => hp2.extBut _ _ c3 (hp1.extBut _ _ c2 (hs0.extBut _ _ c1 e))
  have h1₃ : St1 (i + 1) p2 := D1.over sn1 hp2 S.sep2_1
  refine wpAny_pure ⟨_, rfl, ?_⟩
  show Q (.ref p2.objs.size) _
  have hpp : IsTupOf2 (p2.push { cls := .type "tuple", data := .seq #[x1, x2] }) p2.objs.size x1 x2 := Heap.get?_push_size _ rfl
  have hz4 : (p2.push { cls := .type "tuple", data := .seq #[x1, x2] }).objs.size = p2.objs.size + 1 := Heap.size_push ..
  rw [hsz] at hpp hz4 ⊢
  exact hQ x1 x2 _ tk2 hx1 hx2 (Heap.get?_push_of_some _ hz₃) (D1.frame _ _ _ h1₃ fun b hb o e => Heap.get?_push_of_some _ e) (D2.frame _ _ _ sn2 fun b hb o e => Heap.get?_push_of_some _ e) hpp hz4 fun c o c1 c2 c3 e => Heap.get?_push_of_some _ (hk c o c1 c2 c3 e)
theorem zm_end_held {T : Addr} {f : Bool} {oT : Obj} {Q : Fin → Shared → Prop} (S : ZipSep2 z TI TO i1 i2 fp1 fp2) (D1 : Draws prog w A i1 fp1 n1 P1 St1)
    (hz : IsZipHeld s.heap z TI TO T f) (hT : s.heap.get? T = some oT) (hTI : IsTupOf2 s.heap TI (.ref i1) (.ref i2)) (st1 : St1 n1 s.heap)
    (hE : ∀ h' e, (∀ c o, c ≠ z → c ≠ i1 → c ≠ i2 → s.heap.get? c = some o → h'.get? c = some o) → (∃ o, h'.get? e = some o ∧ o.cls = .type "StopIteration") → E (.ref e) { s with heap := h' }) :
    wpAny (model prog w) A (Builtin.«zip.__next__» ⟨[.ref z], []⟩) Q E s := by
  obtain ⟨hp, g, d, tk0, os⟩ := s
  show wpAny _ _ (field (.ref z) 2 >>= _) _ _ _
  refine wpAny_bind (wpAny_field hz rfl (x := .bool false) rfl ?_)
  show wpAny _ _ (field (.ref z) 3 >>= _) _ _ _
  refine wpAny_bind (wpAny_field hz rfl (x := .ref TI) rfl ?_)
  refine wpAny_bind (wpAny_seqItems hTI rfl ?_)
  show wpAny _ _ (Builtin.SmallTypes.ownedTupleIsFree (.ref z) >>= _) _ _ _
  refine wpAny_bind (wpAny_tupleHeld_zip hz hT fun g0 hz0 hs0 => ?_)
  replace hs0 : Heap.SameBut z hp g0 := hs0
  simp only [Bool.false_eq_true, if_false]
  refine wpAny_bind ?_
  rw [← Array.forIn_toList]
  simp only [List.forIn_cons, List.forIn_nil]
  refine wpAny_bind (wpAny_bind (wpAny_holding ?_))
  show wpAny _ _ (Builtin.SmallTypes.nextOf (.ref i1) >>= _) _ _ ⟨g0, g, d, tk0, os⟩
  refine wpAny_bind (D1.done ⟨g0, g, d, tk0, os⟩ _ _ (D1.over st1 hs0 S.zf1) fun q e hq he => ?_)
  replace hq : Heap.ExtBut i1 g0 q := hq
  exact hE q e (fun c o c1 c2 _ x => hq _ _ c2 (hs0.extBut _ _ c1 x)) he
theorem zm_pyNext_held {T : Addr} {f : Bool} {oT : Obj} {Q : Option Value → Shared → Prop} (S : ZipSep2 z TI TO i1 i2 fp1 fp2) (D1 : Draws prog w A.in1 i1 fp1 n1 P1 St1) (D2 : Draws prog w A.in1 i2 fp2 n2 P2 St2)
    (hz : IsZipHeld s.heap z TI TO T f) (hT : s.heap.get? T = some oT) (hTI : IsTupOf2 s.heap TI (.ref i1) (.ref i2)) (st1 : St1 i s.heap) (st2 : St2 i s.heap) (hlt1 : i < n1) (hlt2 : i < n2)
    (hQ : ∀ x1 x2 h' tk, P1 i x1 → P2 i x2 → IsZipHeld h' z TI TO T true → St1 (i + 1) h' → St2 (i + 1) h' → IsTupOf2 h' s.heap.objs.size x1 x2 → h'.objs.size = s.heap.objs.size + 1 →
      (∀ c o, c ≠ z → c ≠ i1 → c ≠ i2 → s.heap.get? c = some o → h'.get? c = some o) → Q (some (.ref s.heap.objs.size)) { s with heap := h', toks := tk }) :
    wpAny (model prog w) A (pyNext (.ref z)) Q E s := by
  have hTy : s.TypeIs (.ref z) "zip" := ⟨_, hz, rfl⟩
  unfold pyNext
  exact wpAny_bind (wpAny_attempt (wpAny_callSpecial?_slot (name := Str.ofString "__next__") hTy F.slot_zip_next
    (wpAny_call_entry F.slot_zip_next hTy F.entry_zip_next
      (zm_next_held S D1 D2 hz hT hTI st1 st2 hlt1 hlt2 fun x1 x2 h' tk a1 a2 a3 a4 a5 a6 a7 a8 => wpAny_pure (hQ x1 x2 h' tk a1 a2 a3 a4 a5 a6 a7 a8)) (F.args_zip_next_1 _))))
theorem zm_pyNext_end_held {T : Addr} {f : Bool} {oT : Obj} {Q : Option Value → Shared → Prop} (S : ZipSep2 z TI TO i1 i2 fp1 fp2) (D1 : Draws prog w A.in1 i1 fp1 n1 P1 St1)
    (hz : IsZipHeld s.heap z TI TO T f) (hT : s.heap.get? T = some oT) (hTI : IsTupOf2 s.heap TI (.ref i1) (.ref i2)) (st1 : St1 n1 s.heap)
    (hQ : ∀ h', (∀ c o, c ≠ z → c ≠ i1 → c ≠ i2 → s.heap.get? c = some o → h'.get? c = some o) → Q none { s with heap := h' }) : wpAny (model prog w) A (pyNext (.ref z)) Q E s := by
  have hTy : s.TypeIs (.ref z) "zip" := ⟨_, hz, rfl⟩
  unfold pyNext
  refine wpAny_bind (wpAny_attempt (wpAny_callSpecial?_slot (name := Str.ofString "__next__") hTy F.slot_zip_next
    (wpAny_call_entry F.slot_zip_next hTy F.entry_zip_next (zm_end_held S D1 hz hT hTI st1 fun h' e hk he => ?_) (F.args_zip_next_1 _))))
  obtain ⟨o, ho, hc⟩ := he
  refine wpAny_bind (wpAny_isInstance (T := "StopIteration") (b := true) ⟨o, ho, hc⟩ isSubtype_stop ?_)
  exact wpAny_pure (hQ _ hk)
end
/-- the iterator over a tuple and a list, at i -/
structure ZmA (z TI TO i1 i2 a b S : Addr) : Prop where
  D : ZipApart z TI TO i1 i2 a b
  lz : z < S
  lTI : TI < S
  lTO : TO < S
  l1 : i1 < S
  l2 : i2 < S
  na : a ≠ S
  nb : b ≠ S
def ZmS (h : Heap) (z TI TO i1 i2 a b S : Addr) (i : Nat) (xs ys : Array Value) : Prop :=
  IsPair h TI (.ref i1) (.ref i2) ∧ (h.IsTupleIter i1 a i ∧ h.IsTuple a xs) ∧ (h.IsListIter i2 b i ∧ h.IsList b ys) ∧
    ((IsZip h z TI TO .none ∧ ∃ x y, IsPair h TO x y) ∨ ∃ T f oT, IsZipHeld h z TI TO T f ∧ h.get? T = some oT ∧ T ≠ z ∧ T ≠ i1 ∧ T ≠ i2 ∧ T ≠ S)
theorem ZmS.keep {h h' : Heap} {z TI TO i1 i2 a b S : Addr} {i : Nat} {xs ys : Array Value} (x : ZmS h z TI TO i1 i2 a b S i xs ys) (d : ZmA z TI TO i1 i2 a b S) (hk : ∀ b o, b ≠ S → h.get? b = some o → h'.get? b = some o) : ZmS h' z TI TO i1 i2 a b S i xs ys := by
  obtain ⟨x1, ⟨x2, x3⟩, ⟨x4, x5⟩, x6⟩ := x
  refine ⟨hk _ _ (Nat.ne_of_lt d.lTI) x1, ⟨x2.at fun o q => hk _ o (Nat.ne_of_lt d.l1) q, x3.at fun o q => hk _ o d.na q⟩, ⟨x4.at fun o q => hk _ o (Nat.ne_of_lt d.l2) q, x5.at fun o q => hk _ o d.nb q⟩, ?_⟩
  rcases x6 with ⟨q, u, v, q2⟩ | ⟨T, f, oT, q, hT, r1, r2, r3, r4⟩
  · exact .inl ⟨hk _ _ (Nat.ne_of_lt d.lz) q, u, v, hk _ _ (Nat.ne_of_lt d.lTO) q2⟩
  · exact .inr ⟨T, f, oT, hk _ _ (Nat.ne_of_lt d.lz) q, hk _ _ r4 hT, r1, r2, r3, r4⟩
section
variable {prog : Program} {w : World} {A : Around} {E : Value → Shared → Prop} {s : Shared} {z TI TO i1 i2 a b S : Addr} {xs ys : Array Value}
theorem zm_item {i : Nat} {x y : Value} {Q : Option Value → Shared → Prop} (hh : A.handled = none) (d : ZmA z TI TO i1 i2 a b S) (hst : ZmS s.heap z TI TO i1 i2 a b S i xs ys) (hS : S < s.heap.objs.size) (hx : xs[i]? = some x) (hy : ys[i]? = some y)
    (hQ : ∀ tk h', ZmS h' z TI TO i1 i2 a b S (i + 1) xs ys → h'.get? s.heap.objs.size = some { cls := .type "tuple", data := .seq #[x, y] } → h'.objs.size = s.heap.objs.size + 1 → (∀ c o, c ≠ z → c ≠ TO → c ≠ i1 → c ≠ i2 → s.heap.get? c = some o → h'.get? c = some o) → Q (some (.ref s.heap.objs.size)) { s with heap := h', toks := tk }) :
    wpAny (model prog w) A (pyNext (.ref z)) Q E s := by
  obtain ⟨hI, t1, t2, he⟩ := hst
  have D := d.D
  have g1 : i < xs.size := (Array.getElem?_eq_some_iff.mp hx).1
  have g2 : i < ys.size := (Array.getElem?_eq_some_iff.mp hy).1
  have hh1 : A.in1.handled = none := hh
  rcases he with ⟨hz, u, v, hO⟩ | ⟨T, f, oT, hz, hT, r1, r2, r3, r4⟩
  · refine wpAny_pyNext_zipD2_item (sep_mix D) (Draws.tuple hh1 i1 a D.l1i1 xs) (Draws.list hh1 i2 b D.l2i2 ys) hz hI hO t1 t2 g1 g2 fun x' y' h' tk e1 e2 z' O' s1 s2 hT hsz hk => ?_
    have e1' : x' = x := by simpa [hx, eq_comm] using e1
    have e2' : y' = y := by simpa [hy, eq_comm] using e2
    subst e1' e2'
    have lt : ∀ {c : Nat}, c < S → s.heap.objs.size ≠ c := fun h => Nat.ne_of_gt (Nat.lt_trans h hS)
    exact hQ tk h' ⟨hk _ _ D.TIz D.TITO D.TIi1 D.TIi2 hI, s1, s2, .inr ⟨_, false, _, z', hT, lt d.lz, lt d.l1, lt d.l2, Nat.ne_of_gt hS⟩⟩ hT hsz hk
  · refine zm_pyNext_held (sep_mix D) (Draws.tuple hh1 i1 a D.l1i1 xs) (Draws.list hh1 i2 b D.l2i2 ys) hz hT hI t1 t2 g1 g2 fun x' y' h' tk e1 e2 z' s1 s2 hT' hsz hk => ?_
    have e1' : x' = x := by simpa [hx, eq_comm] using e1
    have e2' : y' = y := by simpa [hy, eq_comm] using e2
    subst e1' e2'
    exact hQ tk h' ⟨hk _ _ D.TIz D.TIi1 D.TIi2 hI, s1, s2, .inr ⟨T, true, oT, z', hk _ _ r1 r2 r3 hT, r1, r2, r3, r4⟩⟩ hT' hsz fun c o c1 _ c3 c4 e => hk c o c1 c3 c4 e
theorem zm_done {Q : Option Value → Shared → Prop} (hh : A.handled = none) (d : ZmA z TI TO i1 i2 a b S) (hst : ZmS s.heap z TI TO i1 i2 a b S xs.size xs ys) (hl : xs.size ≤ ys.size)
    (hQ : ∀ tk h', (∀ c o, c ≠ z → c ≠ TO → c ≠ i1 → c ≠ i2 → s.heap.get? c = some o → h'.get? c = some o) → Q none { s with heap := h', toks := tk }) : wpAny (model prog w) A (pyNext (.ref z)) Q E s := by
  obtain ⟨hI, t1, t2, he⟩ := hst
  have D := d.D
  have hh1 : A.in1.handled = none := hh
  rcases he with ⟨hz, u, v, hO⟩ | ⟨T, f, oT, hz, hT, r1, r2, r3, r4⟩
  · exact wpAny_pyNext_zipD2_end (sep_mix D) (Draws.tuple hh1 i1 a D.l1i1 xs) (Draws.list hh1 i2 b D.l2i2 ys) hz hI hO t1 t2 (Nat.le_refl _) hl (.inl rfl) fun h' tk hk => hQ tk h' hk
  · exact zm_pyNext_end_held (sep_mix D) (Draws.tuple hh1 i1 a D.l1i1 xs) hz hT hI t1 fun h' hk => hQ s.toks h' fun c o c1 _ c3 c4 e => hk c o c1 c3 c4 e
end
section
variable {prog : Program} {w : World} {A : Around} {s : Shared} {R : Result → Shared → Prop} {xs ys : Array Value} {ks : List Key}
theorem zipK_get {ks : List Key} {ys : List Value} {i : Nat} {k : Key} {y : Value} (h1 : ks[i]? = some k) (h2 : ys[i]? = some y) : (ks.zip ys)[i]? = some (k, y) := by
  rw [List.getElem?_zip_eq_some]; exact ⟨h1, h2⟩
theorem zm_loop {S z TI TO i1 i2 a b : Addr} (hh : A.handled = none) (d : ZmA z TI TO i1 i2 a b S) (hl : xs.size = ys.size) (hks : ∀ (i : Nat) (x : Value), xs[i]? = some x → ∃ k : Key, ks[i]? = some k ∧ keyIs k x = true) (hn : xs.size ≤ sizeLine) (res : Value) {h₁ : Heap}
    (hR : ∀ h' tk acc c as, (∀ b o, b ≠ S → b ≠ z → b ≠ TO → b ≠ i1 → b ≠ i2 → h₁.get? b = some o → h'.get? b = some o) → h'.get? S = some { cls := .type "list", dict := none, data := .seq acc c, slots := #[] } → as.length = xs.size → KdxG (mixKind prog w) (ks.zip ys.toList) S h' as →
      acc.toList = as.map Value.ref → R (.ok (.ret res)) { s with heap := h', toks := tk }) :
    ∀ (k i : Nat) (h : Heap) (tk c : Nat) (acc : Array Value) (as : List Addr), xs.size - i = k → i ≤ xs.size → ZmS h z TI TO i1 i2 a b S i xs ys → (∀ b o, b ≠ S → b ≠ z → b ≠ TO → b ≠ i1 → b ≠ i2 → h₁.get? b = some o → h.get? b = some o) →
      h.get? S = some { cls := .type "list", dict := none, data := .seq acc c, slots := #[] } → acc.toList = as.map Value.ref → as.length = i → KdxG (mixKind prog w) (ks.zip ys.toList) S h as → S < h.objs.size →
      codeAny (model prog w) A (.builtin "list.extend.loop" ⟨[.ref S, .ref z, res], []⟩) R { s with heap := h, toks := tk } := by
  have nz : S ≠ z := Nat.ne_of_gt d.lz
  have nO : S ≠ TO := Nat.ne_of_gt d.lTO
  have n1 : S ≠ i1 := Nat.ne_of_gt d.l1
  have n2 : S ≠ i2 := Nat.ne_of_gt d.l2
  intro k
  induction k with
  | zero =>
    intro i h tk c acc as hk hi hst hkeep hS hacc hal hG hIs
    have hin : i = xs.size := by omega
    subst hin
    refine codeAny_builtin PySem.F.entry_extend_loop ?_
    rw [Around.under_plainId PySem.F.plain_extend_loop _]
    show wpAny _ A.in1 (pyNext (.ref z) >>= _) _ _ _
    refine wpAny_bind (zm_done (s := { s with heap := h, toks := tk }) (A := A.in1) hh d hst (Nat.le_of_eq hl) fun tk' h' he => ?_)
    refine wpAny_pure (hR h' tk' acc c as (fun b o h1 h2 h3 h4 h5 q => he b o h2 h3 h4 h5 (hkeep b o h1 h2 h3 h4 h5 q)) (he S _ nz nO n1 n2 hS) (by omega) ⟨hG.rise, hG.above, fun j a hj => ?_⟩ hacc)
    obtain ⟨key, kk, x, e1, e2, e3⟩ := hG.pairs j a hj
    have ha := hG.above a (List.mem_of_getElem? hj)
    exact ⟨key, kk, x, e1, e2, he a _ (Nat.ne_of_gt (Nat.lt_trans d.lz ha)) (Nat.ne_of_gt (Nat.lt_trans d.lTO ha)) (Nat.ne_of_gt (Nat.lt_trans d.l1 ha)) (Nat.ne_of_gt (Nat.lt_trans d.l2 ha)) e3⟩
  | succ k ih =>
    intro i h tk c acc as hk hi hst hkeep hS hacc hal hG hIs
    have hlt : i < xs.size := by omega
    have hx := Array.getElem?_eq_getElem hlt
    have hlt2 : i < ys.size := by omega
    have hy := Array.getElem?_eq_getElem hlt2
    have hsz : acc.size = i := by rw [← Array.length_toList, hacc, List.length_map, hal]
    have hSl' : S < h.objs.size := Heap.lt_size hS
    refine codeAny_builtin PySem.F.entry_extend_loop ?_
    rw [Around.under_plainId PySem.F.plain_extend_loop _]
    show wpAny _ A.in1 (pyNext (.ref z) >>= _) _ _ _
    refine wpAny_bind (zm_item (s := { s with heap := h, toks := tk }) (A := A.in1) hh d hst hSl' hx hy fun tk' h' hst' ht hz hkp => ?_)
    dsimp only at ht hz hkp ⊢
    have hS' := hkp S _ nz nO n1 n2 hS
    have up : ∀ b o, b ≠ S → h'.get? b = some o → (h'.update S (Obj.mapSeq (·.push (Value.ref h.objs.size)))).get? b = some o := fun b o hb e => (Heap.get?_update_other _ _ (Ne.symm hb)).trans e
    show wpAny _ A.in1 (updateSeq S (·.push (Value.ref h.objs.size)) >>= _) _ _ _
    refine wpAny_bind ?_
    refine wpAny_updateSeq hS' rfl (wpAny_pure ⟨plainId_quiet PySem.F.plain_extend_loop _, ih (i + 1) _ _ _ (acc.push (Value.ref h.objs.size)) (as ++ [h.objs.size]) (by omega) hlt (hst'.keep d up)
      (fun b o h1 h2 h3 h4 h5 q => up b o h1 (hkp b o h2 h3 h4 h5 (hkeep b o h1 h2 h3 h4 h5 q))) (Heap.get?_update_self _ hS' rfl) (by rw [Array.toList_push, hacc, List.map_append]; rfl) (by rw [List.length_append, hal]; rfl) ⟨?_, ?_, ?_⟩ ?_⟩) (by rw [hsz]; omega)
    · refine List.pairwise_append.mpr ⟨hG.rise, List.pairwise_singleton _ _, fun a ha b hb => ?_⟩
      rw [List.mem_singleton.mp hb]
      exact hG.there ha
    · intro a ha
      rcases List.mem_append.mp ha with ha | ha
      · exact hG.above a ha
      · rw [List.mem_singleton.mp ha]; exact hIs
    · intro j b hj
      rcases Nat.lt_trichotomy j as.length with h1 | h1 | h1
      · rw [List.getElem?_append_left h1] at hj
        obtain ⟨key', k', x', e1, e2, e3⟩ := hG.pairs j b hj
        have hb := hG.above b (List.mem_of_getElem? hj)
        exact ⟨key', k', x', e1, e2, up b _ (Nat.ne_of_gt hb) (hkp b _ (Nat.ne_of_gt (Nat.lt_trans d.lz hb)) (Nat.ne_of_gt (Nat.lt_trans d.lTO hb)) (Nat.ne_of_gt (Nat.lt_trans d.l1 hb)) (Nat.ne_of_gt (Nat.lt_trans d.l2 hb)) e3)⟩
      · subst h1
        have hb : h.objs.size = b := by simpa using hj
        subst hb
        obtain ⟨kk, hkk, hki⟩ := hks i _ hx
        exact ⟨xs[i], kk, ys[i], by rw [hal]; exact zipK_get hkk (by rw [Array.getElem?_toList]; exact hy), hki, up _ _ (Nat.ne_of_gt hSl') ht⟩
      · have hnone : (as ++ [h.objs.size])[j]? = none := List.getElem?_eq_none (by rw [List.length_append, List.length_singleton]; omega)
        rw [hnone] at hj; cases hj
    · have q : (h'.update S (Obj.mapSeq (·.push (Value.ref h.objs.size)))).get? h.objs.size = _ := up _ _ (Nat.ne_of_gt hSl') ht
      exact Nat.lt_trans hIs (Heap.lt_size q)
end
theorem zm_nolen : typeLookup (.type "zip") "__len__" = pure none := am_miss_of_fast (by decide +kernel)
theorem zm_nohint : typeLookup (.type "zip") "__length_hint__" = pure none := am_miss_of_fast (by decide +kernel)
section
variable {prog : Program} {w : World} {A : Around} {E : Value → Shared → Prop} {s : Shared} {xs ys : Array Value} {ks : List Key}
theorem zm_hint {z : Addr} (hT : s.TypeIs (.ref z) "zip") {Q : Bool → Shared → Prop} (h : Q true s) : wpAny (model prog w) A (Builtin.List.listLengthHint (.ref z)) Q E s := by
  unfold Builtin.List.listLengthHint
  refine wpAny_bind (wpAny_specialOf hT zm_nolen ?_)
  refine wpAny_ite_split (fun hab => absurd hab (by decide)) (fun _ => ?_)
  refine wpAny_ite_split (fun hab => absurd hab (by decide)) (fun _ => ?_)
  refine wpAny_bind (wpAny_specialOf hT zm_nohint ?_)
  exact wpAny_pure h
theorem zm_extend {R : Result → Shared → Prop} {S z TI TO i1 i2 a b : Addr} (hh : A.handled = none) (d : ZmA z TI TO i1 i2 a b S) (hst : ZmS s.heap z TI TO i1 i2 a b S 0 xs ys) (hz0 : IsZip s.heap z TI TO .none) (hl : xs.size = ys.size) (hks : ∀ (i : Nat) (x : Value), xs[i]? = some x → ∃ k : Key, ks[i]? = some k ∧ keyIs k x = true) (res : Value) (c₀ : Nat) (hS : s.heap.get? S = some { cls := .type "list", data := .seq #[] c₀ })
    (hR : ∀ h' tk acc c as, (∀ b o, b ≠ S → b ≠ z → b ≠ TO → b ≠ i1 → b ≠ i2 → s.heap.get? b = some o → h'.get? b = some o) → h'.get? S = some { cls := .type "list", dict := none, data := .seq acc c, slots := #[] } → as.length = xs.size → KdxG (mixKind prog w) (ks.zip ys.toList) S h' as →
      acc.toList = as.map Value.ref → R (.ok (.ret res)) { s with heap := h', toks := tk }) (hn : xs.size ≤ sizeLine) :
    wpAny (model prog w) A.in1 (Builtin.List.listExtendWith (.ref S) (.ref z) res)
      (fun fin s' => match fin with | .done f => R (.ok f) s' | .again c' => c'.quiet = true ∧ codeAny (model prog w) A c' R s') (fun e s' => R (.error e) s') s := by
  have key : ∀ (h : Heap) (c₁ tk : Nat), (∀ b o, b ≠ S → s.heap.get? b = some o → h.get? b = some o) → h.get? S = some { cls := .type "list", data := .seq #[] c₁ } →
      codeAny (model prog w) A (.builtin "list.extend.loop" ⟨[.ref S, .ref z, res], []⟩) R { s with heap := h, toks := tk } := by
    intro h c₁ tk hk hS₁
    exact zm_loop (s := s) (h₁ := s.heap) hh d hl hks hn res (fun h' tk' acc c as hk' hS' hl' hG hacc => hR h' tk' acc c as hk' hS' hl' hG hacc)
      xs.size 0 h tk c₁ #[] [] (Nat.sub_zero _) (Nat.zero_le _) (hst.keep d hk) (fun b o hb _ _ _ _ q => hk b o hb q) hS₁ rfl rfl
      ⟨List.Pairwise.nil, (fun _ ha => nomatch ha), (fun j a hj => by simp at hj)⟩ (Heap.lt_size hS₁)
  have hT : s.TypeIs (.ref z) "zip" := ⟨_, hz0, rfl⟩
  unfold Builtin.List.listExtendWith
  refine wpAny_bind (wpAny_typeOf (T := "zip") hT ?_)
  have h1 : Builtin.List.listSameRef (.ref S) (.ref z) = false := by simp [Builtin.List.listSameRef, Nat.ne_of_gt d.lz]
  have h2 : (Value.type "zip" == Value.type "list") = false := by decide
  have h3 : (Value.type "zip" == Value.type "tuple") = false := by decide
  simp only [h1, h2, h3, Bool.or_false, Bool.false_eq_true, if_false]
  refine wpAny_bind (wpAny_pyIter_zip hz0 ?_)
  refine wpAny_bind (wpAny_holding (zm_hint hT ?_))
  refine wpAny_ite_split (fun _ => ?_) (fun _ => wpAny_pure ⟨plainId_quiet PySem.F.plain_extend_loop _, key _ c₀ _ (fun b o _ e => e) hS⟩)
  refine wpAny_bind (wpAny_rule ?_)
  refine wpAny_bind ?_
  show wpAny _ _ (updateSeq S (·.push .none) >>= fun _ => updateSeq S (·.pop)) _ _ _
  refine wpAny_bind (wpAny_updateSeq hS rfl ?_)
  have hS₂ := Heap.get?_update_self (Obj.mapSeq (·.push Value.none)) hS rfl
  refine wpAny_updateSeq (hz := by seq_fits) hS₂ rfl ?_
  have hS₃ := Heap.get?_update_self (Obj.mapSeq (·.pop)) hS₂ rfl
  refine wpAny_pure ⟨plainId_quiet PySem.F.plain_extend_loop _, key _ _ _ (fun b o hb e => ?_) hS₃⟩
  exact (Heap.get?_update_other _ _ (Ne.symm hb)).trans ((Heap.get?_update_other _ _ (Ne.symm hb)).trans e)
theorem zm_init {R : Result → Shared → Prop} {S z TI TO i1 i2 a b : Addr} (hh : A.handled = none) (d : ZmA z TI TO i1 i2 a b S) (hst : ZmS s.heap z TI TO i1 i2 a b S 0 xs ys) (hz0 : IsZip s.heap z TI TO .none) (hl : xs.size = ys.size) (hks : ∀ (i : Nat) (x : Value), xs[i]? = some x → ∃ k : Key, ks[i]? = some k ∧ keyIs k x = true) (hS : s.heap.get? S = some { cls := .type "list", data := .seq #[] })
    (hR : ∀ h' tk acc c as, (∀ b o, b ≠ S → b ≠ z → b ≠ TO → b ≠ i1 → b ≠ i2 → s.heap.get? b = some o → h'.get? b = some o) → h'.get? S = some { cls := .type "list", dict := none, data := .seq acc c, slots := #[] } → as.length = xs.size → KdxG (mixKind prog w) (ks.zip ys.toList) S h' as →
      acc.toList = as.map Value.ref → R (.ok (.ret .none)) { s with heap := h', toks := tk }) (hn : xs.size ≤ sizeLine) :
    wpAny (model prog w) A.in1 (Builtin.«list.__init__» ⟨[.ref S, .ref z], []⟩)
      (fun fin s' => match fin with | .done f => R (.ok f) s' | .again c' => c'.quiet = true ∧ codeAny (model prog w) A c' R s') (fun e s' => R (.error e) s') s := by
  show wpAny _ _ (do let old ← Builtin.List.listItems (.ref S); Builtin.List.listUpdate (.ref S) (fun _ => #[]); letGo old.toList.reverse; Builtin.List.listExtendWith (.ref S) (.ref z) .none) _ _ s
  refine wpAny_bind ?_
  unfold Builtin.List.listItems
  refine wpAny_bind (wpAny_seqItems hS rfl (wpAny_pure ?_))
  show wpAny _ _ (updateSeq S (fun _ => #[]) >>= fun _ => letGo (#[] : Array Value).toList.reverse >>= fun _ => Builtin.List.listExtendWith (.ref S) (.ref z) .none) _ _ s
  refine wpAny_bind (wpAny_updateSeq hS rfl ?_)
  have hS₂ := Heap.get?_update_self (Obj.mapSeq (fun _ => (#[] : Array Value))) hS rfl
  have oth : ∀ b o, b ≠ S → s.heap.get? b = some o → (s.heap.update S (Obj.mapSeq (fun _ => (#[] : Array Value)))).get? b = some o :=
    fun b o hb e => (Heap.get?_update_other _ _ (Ne.symm hb)).trans e
  refine wpAny_bind (wpAny_letGo ?_)
  refine zm_extend hh d (hst.keep d oth) (oth _ _ (Nat.ne_of_lt d.lz) hz0) hl hks .none _ hS₂ (fun h' tk acc c as hk hS' hl' hG hacc => ?_) hn
  exact hR h' tk acc c as (fun b o h1 h2 h3 h4 h5 q => hk b o h1 h2 h3 h4 h5 (oth b o h1 q)) hS' hl' hG hacc
theorem zm_call {Q : Value → Shared → Prop} {z TI TO i1 i2 a b : Addr} (hh : A.handled = none) (D : ZipApart z TI TO i1 i2 a b) (hst : ∀ S, (∀ c, c < s.heap.objs.size → c ≠ S) → ZmS s.heap z TI TO i1 i2 a b S 0 xs ys) (hz0 : IsZip s.heap z TI TO .none) (lt : TI < s.heap.objs.size ∧ TO < s.heap.objs.size ∧ i1 < s.heap.objs.size ∧ i2 < s.heap.objs.size ∧ a < s.heap.objs.size ∧ b < s.heap.objs.size) (hl : xs.size = ys.size) (hks : ∀ (i : Nat) (x : Value), xs[i]? = some x → ∃ k : Key, ks[i]? = some k ∧ keyIs k x = true) (hn : xs.size ≤ sizeLine)
    (hQ : ∀ h' tk acc c as, (∀ b o, b ≠ z → b ≠ TO → b ≠ i1 → b ≠ i2 → s.heap.get? b = some o → h'.get? b = some o) → h'.get? s.heap.objs.size = some { cls := .type "list", dict := none, data := .seq acc c, slots := #[] } → as.length = xs.size → KdxG (mixKind prog w) (ks.zip ys.toList) s.heap.objs.size h' as →
      acc.toList = as.map Value.ref → Q (.ref s.heap.objs.size) { s with heap := h', toks := tk }) :
    wpAny (model prog w) A (call (.type "list") [.ref z]) Q E s := by
  refine callType_codes (Q₁ := fun obj s₁ => obj = .ref s.heap.objs.size ∧ s₁ = { s with heap := s.heap.push { cls := .type "list", data := .seq #[] } }) PySem.F.called_list (PySem.F.typeCall_list_1 _) PySem.F.entry_list_init
    (code_list_new _ ⟨rfl, rfl⟩) fun obj s₁ h₁ => ?_
  obtain ⟨rfl, rfl⟩ := h₁
  have hS : (s.heap.push { cls := .type "list", data := .seq #[] }).get? s.heap.objs.size = some { cls := .type "list", data := .seq #[] } := Heap.get?_push_size _ rfl
  have lz : z < s.heap.objs.size := Heap.lt_size hz0
  obtain ⟨q1, q2, q3, q4, q5, q6⟩ := lt
  have d : ZmA z TI TO i1 i2 a b s.heap.objs.size := ⟨D, lz, q1, q2, q3, q4, Nat.ne_of_lt q5, Nat.ne_of_lt q6⟩
  have h0 := (hst _ fun c h => Nat.ne_of_lt h).keep d (h' := s.heap.push { cls := .type "list", data := .seq #[] }) fun b o _ e => Heap.get?_push_of_some _ e
  refine ⟨⟨_, hS, rfl⟩, PySem.F.args_list_init_2 _ _, zm_init (A := A.in1) hh d h0 (Heap.get?_push_of_some _ hz0) hl hks hS (fun h' tk acc c as hk hS' hl' hG hacc => ?_) hn⟩
  exact ⟨rfl, hQ h' tk acc c as (fun b o h1 h2 h3 h4 q => hk b o (Nat.ne_of_lt (Heap.lt_size q)) h1 h2 h3 h4 (Heap.get?_push_of_some _ q)) hS' hl' hG hacc⟩
end
theorem key_of_rel {k : Key} {v : Value} (r : RelV (kV k) v) : keyIs k v = true := by
  cases k with
  | inl i =>
    obtain ⟨t, rfl⟩ := r
    exact decide_eq_true rfl
  | inr x =>
    obtain ⟨t, rfl⟩ := r
    exact decide_eq_true rfl
theorem kv_zip : ∀ {ks : List Key} {ys : List V} {us : List Value}, Vals ys us → KV (ks.zip ys) (ks.zip us)
  | [], _, _, _ => .nil
  | _ :: _, _, _, .nil => .nil
  | _ :: _, _, _, .cons r t => .cons ⟨rfl, r⟩ (kv_zip t)
def tListZip (K : Frag) (ta : TA) : TE := fun σ H Q => ta σ H fun vs H1 => ∃ (a b : Addr) (ks : List Key) (ys : List V), vs = [.ref a, .ref b] ∧ SqT K H1 a (ks.map kV) ∧ SqL K H1 b ys ∧ ks.length = ys.length ∧
  ∀ (H' : Hp) (p : Addr) (ts : List Addr), (∀ b o, H1 b = some o → H' b = some o) → H1 p = none → (∀ t ∈ ts, H1 t = none) → p ∉ ts → H' p = some (.lst (ts.map V.ref)) → Paired (fun (t : Addr) (q : Key × V) => H' t = some (.tup [kV q.1, q.2])) ts (ks.zip ys) → Q (.ref p) H'
section
variable {X : Cx} {e e2 : Expr} {ta : TA} {p p2 cpos pos : Pos}
/-- list(zip(e, e2)) -/
theorem pe_listZip (hc : X.calm = true) (ha : PA X [e, e2] ta) (hg : Gl X "list") (hm : X.mg "list" = none) (hg2 : Gl X "zip") (hm2 : X.mg "zip" = none)
    (hs : starEach [.Call (.Name "zip" p2) [e, e2] [] cpos] X.env = (false, eval (.Call (.Name "zip" p2) [e, e2] [] cpos) X.env) :: starEach [] X.env := by rfl)
    (hs2 : starEach [e, e2] X.env = (false, eval e X.env) :: starEach [e2] X.env := by rfl) (hpl : (backTo cpos (starEach [e2] X.env)).any (·.1) = false := by rfl) :
    PE X (.Call (.Name "list" p) [.Call (.Name "zip" p2) [e, e2] [] cpos] [] pos) (tListZip X.K ta) := by
  refine ⟨fun pins s σ H Q I hq => ?_⟩
  refine wpAny_Call_Name_kw (ld_blt I hg hm PyProof.Rows.boot_list ?_)
  refine PyProof.Rows.callWith_type1 ?_ hs rfl
  rw [hs]
  show wpAny _ _ (spliced ((false, eval (.Call (.Name "zip" p2) [e, e2] [] cpos) X.env) :: backTo pos (starEach [] X.env))) _ _ s
  refine Calls.spliced_cons ?_
  refine wpAny_Call_Name_kw (ld_blt I hg2 hm2 PyProof.Rows.boot_zip ?_)
  refine PyProof.Rows.callWith_type1 (thn (ha.run cpos pins s σ H _ I hq) fun us s1 ⟨vs, H1, I1, r1, a, b, ks, ys, ex, hx, hy, hl, q⟩ => ?_) hs2 hpl
  subst ex
  cases r1 with
  | cons r rr =>
    cases rr with
    | cons r' rr =>
      cases rr
      cases r
      cases r'
      obtain ⟨us, ru, pu, zu⟩ := I1.tuple hx
      obtain ⟨vs, rv, pv, zv⟩ := I1.list hy
      have la : a < s1.heap.objs.size := by obtain ⟨o, e, _⟩ := id pu; exact Heap.lt_size e
      have lb : b < s1.heap.objs.size := pv.lt
      have lu := ru.length
      have lv := rv.length
      rw [List.length_map] at lu
      refine zip_begins2 (begins_tuple a us.toArray) (begins_list b vs.toArray) pu pv.isList fun h1 hz hI hO p1 p2 hsz hk1 => ?_
      refine Calls.spliced_nil ?_
      have hsz' : h1.objs.size = s1.heap.objs.size + 5 := hsz
      have D := PySem.W.ktu_apart s1.heap.objs.size a b la lb
      refine zm_call (s := { s1 with heap := h1 }) (ks := ks) (xs := us.toArray) (ys := vs.toArray) (I1.ok.hd hc) D (fun S hS => ⟨hI, ⟨⟨_, p1, rfl, rfl⟩, (show s1.heap.IsTuple a us.toArray from pu).at fun o q => hk1 _ o q⟩, ⟨⟨_, p2, rfl, rfl⟩, pv.isList.at fun o q => hk1 _ o q⟩, .inl ⟨hz, _, _, hO⟩⟩) hz
        ⟨by show _ < h1.objs.size; rw [hsz']; exact Nat.add_lt_add_left (by decide) _, by show _ < h1.objs.size; rw [hsz']; exact Nat.add_lt_add_left (by decide) _, by show _ < h1.objs.size; rw [hsz']; exact Nat.lt_add_of_pos_right (by decide), by show _ < h1.objs.size; rw [hsz']; exact Nat.add_lt_add_left (by decide) _, by show _ < h1.objs.size; rw [hsz']; exact Nat.lt_of_lt_of_le la (Nat.le_add_right _ _), by show _ < h1.objs.size; rw [hsz']; exact Nat.lt_of_lt_of_le lb (Nat.le_add_right _ _)⟩ (by rw [List.size_toArray, List.size_toArray]; omega) (fun i x hx' => ?_) (by rw [List.size_toArray]; rw [List.length_map] at zu; omega) fun h' tk acc c as hk hS hl' hG hacc => ?_
      · have hx2 : us[i]? = some x := by simpa using hx'
        have hi : i < us.length := (List.getElem?_eq_some_iff.mp hx2).1
        have hi2 : i < ks.length := by omega
        obtain ⟨u, hu, ru'⟩ := ru.get (i := i) (x := kV ks[i]) (by rw [List.getElem?_map, List.getElem?_eq_getElem hi2]; rfl)
        rw [hx2] at hu
        cases hu
        exact ⟨_, List.getElem?_eq_getElem hi2, key_of_rel ru'⟩
      have hk2 : ∀ b o, s1.heap.get? b = some o → h'.get? b = some o := fun b o e => by
        have hb := Heap.lt_size e
        have hn : ∀ j, b ≠ s1.heap.objs.size + j := fun j => Nat.ne_of_lt (Nat.lt_of_lt_of_le hb (Nat.le_add_right _ _))
        exact hk b o (hn 4) (hn 3) (hn 0) (hn 1) (hk1 b o e)
      rw [List.toList_toArray] at hG
      have hle : s1.heap.objs.size ≤ h1.objs.size := by rw [hsz']; exact Nat.le_add_right _ _
      have k4 : h1.objs.size ∉ as := fun z => Nat.lt_irrefl _ (hG.above _ z)
      have las : as.length = ks.length := by rw [hl', List.size_toArray]; omega
      obtain ⟨H', k1, k2, k3, k5, k6, J⟩ := pairs_laid (tk := tk) I1 hle hle k4 (by rw [las]; rw [List.length_map] at zu; exact zu) (kv_zip rv) hk2 hS (by rw [las, List.length_zip]; omega) hG hacc
      exact ⟨.ref _, H', J, rfl, q H' _ as k1 k2 k3 k4 k5 k6⟩
end
end WB
namespace WK
open PySem PySem.Spec PyProof.Rows L2 He WB PySem.W
section
variable {P : Program} {w : World} {K : PySem.W.Frag} {mg : Str → Option Value} {base : Heap}
/-- a part as a text -/
def keyS : Key → Str
  | .inl i => toString i
  | .inr x => x
def keyF : Key → Prop
  | .inl i => 0 ≤ i ∧ i ≤ 100
  | .inr _ => True
def holdL (ps : List (Key × V)) : List (Str × Nat) := ps.filterMap fun q => match q.2 with | .ref k => some (keyS q.1, k) | _ => none
theorem holdL_app (a b : List (Key × V)) : holdL (a ++ b) = holdL a ++ holdL b := List.filterMap_append ..
theorem holdL_len (a : List (Key × V)) : (holdL a).length ≤ a.length := List.length_filterMap_le _ _
theorem holdL_nums : ∀ (a : List (Key × V)), (holdL a).map (·.2) = refs (a.map (·.2))
  | [] => rfl
  | q :: r => by
    have ih := holdL_nums r
    obtain ⟨k, v⟩ := q
    cases v <;> simpa [holdL, refs] using ih
/-- at r a list of new pairs of text and number -/
def HoldAt (H : Hp) (r : Addr) (l : List (Str × Nat)) : Prop := ∃ ts : List Addr, H r = some (.lst (ts.map V.ref)) ∧ Paired (fun t q => H t = some (.tup [.str q.1, .int (q.2 : Int)])) ts l
theorem HoldAt.same {H H' : Hp} (s : Same H H') {r : Addr} {l : List (Str × Nat)} (h : HoldAt H r l) : HoldAt H' r l := by
  obtain ⟨ts, e, p⟩ := h
  exact ⟨ts, s _ _ e, Paired.imp (fun _ _ z => s _ _ z) p⟩
def spHoldings : Sp := fun vs H Q _ => ∃ (a : Addr) (ps : List (Key × V)), vs = [.ref a] ∧ ShownAt H a ps ∧ ps.length ≤ 100 ∧ (∀ q ∈ ps, keyF q.1) ∧
  ∀ r H', Same H H' → H r = none → HoldAt H' r (holdL ps) → Q (.ref r) H'
theorem ok_holdings (T : Tx w K mg) : DefOk ⟨P, w, K, mg, base⟩ 2 (ga K "holdings") ["parts"] spHoldings := by
  refine DefOk.mk' (f_holdings T) sc_holdings (fun _ _ _ _ _ _ us hl => match us, hl with | [_], _ => rfl) (fun vs H Q E h => ?_) (fun cdv A outer s H vs Q E hr h => ?_)
  · obtain ⟨a, ps, rfl, _⟩ := h
    rfl
  · obtain ⟨a, ps, rfl, sh, lp, kf, k⟩ := h
    have hu := hu_of hr
    refine ⟨_, (pss_one (ps_ret (pe_lc (own := [("part", 1), ("value", 2)]) (g := (gTup K 2 (gCons (gName 1) (gCons (gName 2) gNil)))) rfl sc_holdings.nd (pi_list (pv 0)) (blkOk_by (own := [("part", 1), ("value", 2)]) (N := ["parts", "part", "value"]) (sc := defScope s_holdings) (by decide +kernel)) (fun _ _ _ _ _ => (pg_tupK (K := K) rfl rfl (pgs_cons (pg_name (i := 1) sc_holdings.nd rfl (Or.inl rfl)) (pgs_cons (pg_name (i := 2) sc_holdings.nd rfl (Or.inl rfl)) pgs_nil)))) (fun _ _ _ _ _ => by exact (pts_one (pt_val (pe_cg (M := ⟨P, w, K, mg, base⟩) rfl hr rfl (pa_cons (pv 2) pa_nil))))) (fun _ _ _ _ _ => by exact (pe_tup (pa_cons (pe_or2 (pe_callTy call_str_int (by rfl) (z_str T) (by decide +kernel) (pa_cons (pv 1) pa_nil)) (pe_callTy SkE.call_str_str (by rfl) (z_str T) (by decide +kernel) (pa_cons (pv 1) pa_nil))) (pa_cons (pe_ix (ixK rIxT rfl ix_tup) (pv 2) pe_int (fun _ _ => rfl)) pa_nil))))))), ?_⟩
    obtain ⟨ts, ea, pr⟩ := sh
    refine ⟨_, rfl, a, rfl, ⟨_, SqL.of ea⟩, fun D hD => ?_⟩
    refine lc_list (K := K) (a := a) (xs := ts.map V.ref) (fun i H' => Same H H' ∧ HoldAt H' D (holdL (ps.take i))) ⟨same_new hD, [], upd_same, .nil⟩ (fun i H' _ h => SqL.of (h.1 _ _ ea)) ?_ ?_
    · rintro i x H1 hi ⟨s1, us, g1, g2⟩
      rw [List.getElem?_map] at hi
      obtain ⟨t, ht, rfl⟩ := Option.map_eq_some_iff.mp hi
      obtain ⟨q, hq, u, et, ru⟩ : ∃ q, ps[i]? = some q ∧ ∃ u, H t = some (.tup [kV q.1, u]) ∧ VR H u q.2 := by
        rcases Paired.at i pr with ⟨z, _⟩ | ⟨a1, a2, a3, a4, a5⟩
        · rw [ht] at z; cases z
        · rw [ht] at a3; cases a3
          exact ⟨a2, a4, a5⟩
      refine ⟨t, _, rfl, SqT.of (s1 _ _ et), rfl, _, _, rfl, _, _, rfl, rfl, rfl, ?_⟩
      have ru1 := VR.mono (Same.tup s1) ru
      have nx : holdL (ps.take (i + 1)) = holdL (ps.take i) ++ holdL [q] := by rw [take_snoc hq, holdL_app]
      have il : i < ps.length := (List.getElem?_eq_some_iff.mp hq).1
      have lus : us.length ≤ 100 := by
        rw [Paired.length g2]
        exact Nat.le_trans (holdL_len _) (by rw [List.length_take]; omega)
      refine ⟨_, _, _, _, g_is_thing T, ok_is_thing T, by decide, _, rfl, u, q.2, rfl, ru1, _, rfl, ?_⟩
      have stay : (∀ j, q.2 ≠ .ref j) → Same H H1 ∧ HoldAt H1 D (holdL (ps.take (i + 1))) := fun h => by
        refine ⟨s1, us, g1, ?_⟩
        rw [nx]
        have : holdL [q] = [] := by
          obtain ⟨q1, q2⟩ := q
          cases q2 with
          | ref j => exact absurd rfl (h j)
          | _ => rfl
        rw [this, List.append_nil]
        exact g2
      rcases ru1.cases with ⟨e1, e2⟩ | ⟨i', e1, e2⟩ | ⟨b, j, e1, e2, eb⟩
      · rw [e2]
        exact if_f rfl (stay fun j z => by rw [e2] at z; cases z)
      · rw [e2]
        exact if_f rfl (stay fun j z => by rw [e2] at z; cases z)
      rw [e2]
      refine if_t rfl ?_
      subst e1
      have hq1 : holdL [q] = [(keyS q.1, j)] := by
        obtain ⟨q1, q2⟩ := q
        cases e2
        rfl
      have kf1 := kf q (List.mem_of_getElem? hq)
      have fin : ∀ g : Addr, H1 g = none → ∃ acc, upd H1 g (.tup [.str (keyS q.1), .int (j : Int)]) D = some (.lst acc) ∧ acc.length < sizeLine ∧ Same H (upd (upd H1 g (.tup [.str (keyS q.1), .int (j : Int)])) D (.lst (acc ++ [.ref g]))) ∧ HoldAt (upd (upd H1 g (.tup [.str (keyS q.1), .int (j : Int)])) D (.lst (acc ++ [.ref g]))) D (holdL (ps.take (i + 1))) := fun g hg => by
        have sg := same_new (o := .tup [V.str (keyS q.1), V.int (j : Int)]) hg
        have nDg : D ≠ g := ne_of_none g1 hg
        have tp : Tup H1 (upd (upd H1 g (.tup [.str (keyS q.1), .int (j : Int)])) D (.lst (us.map V.ref ++ [.ref g]))) := (Same.tup sg).trans (tup_upd (by rw [sg _ _ g1]; intro xs z; cases z; rfl))
        refine ⟨_, sg _ _ g1, szl (by rw [List.length_map]; omega), same_mut (s1.trans sg) hD, us ++ [g], by rw [upd_same, List.map_append]; rfl, ?_⟩
        rw [nx, hq1]
        exact Paired.app (Paired.imp (fun _ _ z => tp.tup _ _ z) g2) (.cons (by rw [upd_ne nDg.symm]; exact upd_same) .nil)
      obtain ⟨q1, q2⟩ := q
      cases q1 with
      | inl n =>
        refine .inl ⟨_, rfl, n, rfl, Nat.lt_of_le_of_lt (Nat.log2_le_self _) (by have := kf1.1; have := kf1.2; omega), _, rfl, b, _, 1, _, rfl, rfl, SqT.of eb, atI_nat (j := 1) rfl, by show 2 ≤ sizeLine; decide, fun g hg => fin g hg⟩
      | inr x =>
        refine .inr ⟨_, rfl, x, rfl, _, rfl, b, _, 1, _, rfl, rfl, SqT.of eb, atI_nat (j := 1) rfl, by show 2 ≤ sizeLine; decide, fun g hg => fin g hg⟩
    · rintro H1 ⟨s1, h1⟩
      rw [List.length_map, show ts.length = ps.length from Paired.length pr, List.take_length] at h1
      exact k D H1 s1 hD h1
end
end WK
namespace WK
open PySem PySem.Spec PyProof.Rows L2 He WB PySem.W
section
variable {P : Program} {w : World} {K : PySem.W.Frag} {mg : Str → Option Value} {base : Heap}
theorem exR {te : TE} {σ : L2.St} {H : Hp} {Y : V → Hp → Prop} (Z : V → Hp → Prop) (h1 : ∀ Y' : V → Hp → Prop, (∀ v H1, Z v H1 → Y' v H1) → te σ H Y') (h2 : ∀ v H1, Z v H1 → Y v H1) : te σ H Y := h1 _ h2
def RowAt (H : Hp) (t : Addr) (k : Nat) (th : Th) : Prop := ∃ lp, H t = some (.tup [.int (k : Int), .str th.body.kind, .ref lp, .int th.body.size]) ∧ ShownAt H lp th.body.shown
/-- a photo at p, of S, with the things ks -/
def PhoAt (H : Hp) (p : Addr) (S : Sta) (ks : List Nat) : Prop := ∃ (ln lt : Addr) (vs : List V) (ts : List Addr), H p = some (.tup [.ref ln, .ref lt]) ∧ H ln = some (.lst vs) ∧ LVR H vs (S.names.map (·.2)) ∧ H lt = some (.lst (ts.map V.ref)) ∧ Paired (fun t k => RowAt H t k (S.th k)) ts ks
theorem PhoAt.of {H0 H : Hp} {p : Addr} {S : Sta} {ks : List Nat} (h : PhotoAt H0 H p S ks) : PhoAt H p S ks := by
  obtain ⟨ln, lt, vs, ts, h1, h2, h3, h4, _, _, _, Hm, _, _, _, h5⟩ := h
  exact ⟨ln, lt, vs, ts, h1, h2, h3, h4, Paired.imp (fun _ _ ⟨lp, z1, z2, _⟩ => ⟨lp, z1, z2⟩) h5⟩
theorem ShownAt.keep {H H' : Hp} {l : Addr} {ps : List (Key × V)} (tp : Tup H H') (kl : ∀ xs, H l = some (.lst xs) → H' l = some (.lst xs)) (h : ShownAt H l ps) : ShownAt H' l ps := by
  obtain ⟨ts, e, p⟩ := h
  exact ⟨ts, kl _ e, Paired.imp (fun _ _ ⟨v, z1, z2⟩ => ⟨v, tp _ _ z1, VR.mono tp z2⟩) p⟩
/-- lists stay, tuples stay -/
structure Kp (H H' : Hp) : Prop where
  tp : Tup H H'
  ls : ∀ a xs, H a = some (.lst xs) → H' a = some (.lst xs)
theorem Kp.of_same {H H' : Hp} (s : Same H H') : Kp H H' := ⟨Same.tup s, fun _ _ e => s _ _ e⟩
theorem PhoAt.keep {H H' : Hp} {p : Addr} {S : Sta} {ks : List Nat} (k : Kp H H') (h : PhoAt H p S ks) : PhoAt H' p S ks := by
  obtain ⟨ln, lt, vs, ts, h1, h2, h3, h4, h5⟩ := h
  exact ⟨ln, lt, vs, ts, k.tp _ _ h1, k.ls _ _ h2, LVR.mono k.tp h3, k.ls _ _ h4, Paired.imp (fun _ _ ⟨lp, z1, z2⟩ => ⟨lp, k.tp _ _ z1, ShownAt.keep k.tp (k.ls _) z2⟩) h5⟩
theorem PhoAt.same {H H' : Hp} {p : Addr} {S : Sta} {ks : List Nat} (s : Same H H') (h : PhoAt H p S ks) : PhoAt H' p S ks := h.keep (Kp.of_same s)
theorem HoldAt.keep {H H' : Hp} (k : Kp H H') {r : Addr} {l : List (Str × Nat)} (h : HoldAt H r l) : HoldAt H' r l := by
  obtain ⟨ts, e, p⟩ := h
  exact ⟨ts, k.ls _ _ e, Paired.imp (fun _ _ z => k.tp _ _ z) p⟩
/-- a photo all of whose lists are new -/
def PhoNew (H0 H : Hp) (p : Addr) (S : Sta) (ks : List Nat) : Prop := ∃ (ln lt : Addr) (vs : List V) (ts : List Addr), H p = some (.tup [.ref ln, .ref lt]) ∧ H ln = some (.lst vs) ∧ LVR H vs (S.names.map (·.2)) ∧ H lt = some (.lst (ts.map V.ref)) ∧ H0 ln = none ∧ H0 lt = none ∧
  Paired (fun (t : Addr) (k : Nat) => ∃ lp, H t = some (.tup [.int (k : Int), .str (S.th k).body.kind, .ref lp, .int (S.th k).body.size]) ∧ ShownAt H lp (S.th k).body.shown ∧ H0 lp = none) ts ks
theorem PhoNew.at {H0 H : Hp} {p : Addr} {S : Sta} {ks : List Nat} (h : PhoNew H0 H p S ks) : PhoAt H p S ks := by
  obtain ⟨ln, lt, vs, ts, h1, h2, h3, h4, _, _, h5⟩ := h
  exact ⟨ln, lt, vs, ts, h1, h2, h3, h4, Paired.imp (fun _ _ ⟨lp, z1, z2, _⟩ => ⟨lp, z1, z2⟩) h5⟩
theorem PhoNew.of {H0 Hb H : Hp} {p : Addr} {S : Sta} {ks : List Nat} (s : Same H0 Hb) (h : PhotoAt Hb H p S ks) : PhoNew H0 H p S ks := by
  obtain ⟨ln, lt, vs, ts, h1, h2, h3, h4, h5, h6, _, Hm, sm, _, _, h7⟩ := h
  exact ⟨ln, lt, vs, ts, h1, h2, h3, h4, s.free h5, s.free h6, Paired.imp (fun _ _ ⟨lp, z1, z2, z3⟩ => ⟨lp, z1, z2, s.free (sm.free z3)⟩) h7⟩
theorem ShownAt.stp {O : List Addr} {H H' : Hp} {l : Addr} {ps : List (Key × V)} (st : Stp O H H') (tp : Tup H H') (n : l ∉ O) (h : ShownAt H l ps) : ShownAt H' l ps := by
  obtain ⟨ts, e, p⟩ := h
  exact ⟨ts, st _ _ e n, Paired.imp (fun _ _ ⟨v, z1, z2⟩ => ⟨v, tp _ _ z1, VR.mono tp z2⟩) p⟩
theorem PhoNew.stp {O : List Addr} {H0 H H' : Hp} {p : Addr} {S : Sta} {ks : List Nat} (st : Stp O H H') (tp : Tup H H') (d : ∀ b ∈ O, H0 b ≠ none) (h : PhoNew H0 H p S ks) : PhoNew H0 H' p S ks := by
  obtain ⟨ln, lt, vs, ts, h1, h2, h3, h4, h5, h6, h7⟩ := h
  exact ⟨ln, lt, vs, ts, tp _ _ h1, st _ _ h2 (fun z => d _ z h5), LVR.mono tp h3, st _ _ h4 (fun z => d _ z h6), h5, h6, Paired.imp (fun _ _ ⟨lp, z1, z2, z3⟩ => ⟨lp, tp _ _ z1, ShownAt.stp st tp (fun z => d _ z z3) z2, z3⟩) h7⟩
theorem PhoNew.same {H0 H H' : Hp} {p : Addr} {S : Sta} {ks : List Nat} (s : Same H H') (h : PhoNew H0 H p S ks) : PhoNew H0 H' p S ks := h.stp (Stp.of_same (O := []) s) (Same.tup s) fun _ z => nomatch z
theorem rep_pho {H : Hp} {p : Addr} {S : Sta} {ks : List Nat} (h : PhoAt H p S ks) (n8 : S.names.length ≤ 1000) (wf : ∀ k ∈ ks, (S.th k).body.wf) (lk : ks.length ≤ 1000) : RepN H 7 (.ref p) (photoT S ks) := by
  obtain ⟨ln, lt, vs, ts, e1, e2, e3, e4, e5⟩ := h
  refine ⟨p, _, rfl, e1, by show 2 ≤ 1000; decide, .cons ⟨ln, vs, rfl, e2, by rw [List.length_map]; exact n8, ?_⟩ (.cons ⟨lt, _, rfl, e4, by rw [List.length_map]; exact lk, ?_⟩ .nil)⟩
  · have q : Paired (fun v x => RepN H 5 v (vT x)) vs (S.names.map (·.2)) := Paired.imp (fun v x r => (rep_v r).le (by decide)) e3
    have q2 := Paired.mapR vT q
    rw [List.map_map] at q2
    exact q2
  · refine Paired.mapL _ (Paired.mapR _ (paired_mem e5 fun t k hk ⟨lp, s1, s2⟩ => ?_))
    have hl : (S.th k).body.shown.length ≤ 1000 := Nat.le_trans (Body.shown_len (wf k hk)) (by decide)
    exact ⟨t, _, rfl, s1, by show 4 ≤ 1000; decide, .cons rfl (.cons rfl (.cons (rep_parts s2 hl) (.cons rfl .nil)))⟩
/-- what a thing of a photo holds -/
def lkS (S : Sta) (k : Nat) : List (Str × Nat) := if (S.th k).body.isWat then [] else holdL (S.th k).body.shown
def szS (S : Sta) (k : Nat) : Int := (S.th k).body.size
theorem lkS_nums (S : Sta) (k : Nat) : (lkS S k).map (·.2) = heldS S k := by
  unfold lkS heldS
  cases h : (S.th k).body with
  | wat s g => rfl
  | row xs => exact holdL_nums _
  | dic r kvs => exact holdL_nums _
def pcF (e l z : Addr) : List (Str × V) := [("entries", .ref e), ("links", .ref l), ("sizes", .ref z)]
theorem pcF_entries {e l z : Addr} : (pcF e l z).lookup ("entries" : Str) = some (.ref e) := by kernel_rfl
theorem pcF_links {e l z : Addr} : (pcF e l z).lookup ("links" : Str) = some (.ref l) := by kernel_rfl
theorem pcF_sizes {e l z : Addr} : (pcF e l z).lookup ("sizes" : Str) = some (.ref z) := by kernel_rfl
/-- a picture at p -/
def PicAt (K : PySem.W.Frag) (H : Hp) (p : Addr) (S : Sta) (ks : List Nat) : Prop := ∃ (dp e l z : Addr) (A : Nat → Addr), H p = some (.ins (ga K "Picture") dp (pcF e l z)) ∧ HoldAt H e (holdL S.names) ∧
  H l = some (.dK (ks.map fun (k : Nat) => ((.inl (k : Int) : Key), V.ref (A k)))) ∧ (∀ k ∈ ks, HoldAt H (A k) (lkS S k)) ∧ H z = some (.dK (ks.map fun (k : Nat) => ((.inl (k : Int) : Key), V.int (szS S k)))) ∧ l ≠ z
theorem PicAt.same {H H' : Hp} {p : Addr} {S : Sta} {ks : List Nat} (s : Same H H') (h : PicAt K H p S ks) : PicAt K H' p S ks := by
  obtain ⟨dp, e, l, z, A, h1, h2, h3, h4, h5, nlz⟩ := h
  exact ⟨dp, e, l, z, A, s _ _ h1, h2.same s, s _ _ h3, fun k hk => (h4 k hk).same s, s _ _ h5, nlz⟩
/-- a dict at l, walked or not -/
def LinkAt (H : Hp) (l : Addr) (kvs : List (Key × V)) : Prop := H l = some (.dK kvs) ∨ ∃ od, H l = some (.frz od (.dK kvs))
theorem LinkAt.same {H H' : Hp} {l : Addr} {kvs : List (Key × V)} (s : Same H H') (h : LinkAt H l kvs) : LinkAt H' l kvs := h.imp (fun e => s _ _ e) fun ⟨od, e⟩ => ⟨od, s _ _ e⟩
theorem LinkAt.get {H : Hp} {l : Addr} {kvs : List (Key × V)} {k : Key} (h : LinkAt H l kvs) : DGet H l (kV k) (valV kvs k) := by
  rcases h with e | ⟨od, e⟩
  · exact DGet.k e
  · exact .inl ⟨_, _, .inr ⟨od, e⟩, rfl, rfl⟩
/-- a picture whose links are walked, or not -/
def PicG (K : PySem.W.Frag) (H : Hp) (p : Addr) (S : Sta) (ks : List Nat) : Prop := ∃ (dp e l z : Addr) (A : Nat → Addr), H p = some (.ins (ga K "Picture") dp (pcF e l z)) ∧ HoldAt H e (holdL S.names) ∧
  LinkAt H l (ks.map fun (k : Nat) => ((.inl (k : Int) : Key), V.ref (A k))) ∧ (∀ k ∈ ks, HoldAt H (A k) (lkS S k)) ∧ H z = some (.dK (ks.map fun (k : Nat) => ((.inl (k : Int) : Key), V.int (szS S k)))) ∧ l ≠ z
theorem PicAt.g {H : Hp} {p : Addr} {S : Sta} {ks : List Nat} (h : PicAt K H p S ks) : PicG K H p S ks := by
  obtain ⟨dp, e, l, z, A, h1, h2, h3, h4, h5, nlz⟩ := h
  exact ⟨dp, e, l, z, A, h1, h2, .inl h3, h4, h5, nlz⟩
theorem PicG.same {H H' : Hp} {p : Addr} {S : Sta} {ks : List Nat} (s : Same H H') (h : PicG K H p S ks) : PicG K H' p S ks := by
  obtain ⟨dp, e, l, z, A, h1, h2, h3, h4, h5, nlz⟩ := h
  exact ⟨dp, e, l, z, A, s _ _ h1, h2.same s, h3.same s, fun k hk => (h4 k hk).same s, s _ _ h5, nlz⟩
/-- what is right of a photo -/
structure PhoOk (S : Sta) (ks : List Nat) : Prop where
  nm : S.names.map (·.1) = nmK
  wf : ∀ k ∈ ks, (S.th k).body.wf
  srt : ks.Pairwise (· < ·)
  len : ks.length ≤ 1000
  es : ∀ k ∈ refs (S.names.map (·.2)), k ∈ ks
  ls : ∀ k ∈ ks, ∀ j ∈ heldS S k, j ∈ ks
theorem PhoOk.of {S : Sta} {ks : List Nat} (o : WB.Ok S) (srt : ks.Pairwise (· < ·)) (len : ks.length ≤ 1000) (mem : ∀ k, k ∈ ks ↔ ReachA S k) : PhoOk S ks :=
  ⟨o.names, fun k hk => o.wf k (o.kept_lt (ReachA.kept ((mem k).mp hk))), srt, len, fun k hk => (mem k).mpr (.start hk trivial), fun k hk j hj => (mem j).mpr (.step ((mem k).mp hk) hj trivial)⟩
theorem shown_keys {b : Body} (w : b.wf) : ∀ q ∈ b.shown, keyF q.1 := by
  intro q hq
  cases b with
  | wat s g => rw [List.mem_singleton.mp hq]; trivial
  | row xs =>
    obtain ⟨p, hp, rfl⟩ := List.mem_map.mp hq
    have h1 := List.mem_zipIdx_iff_getElem?.mp (show (p.1, p.2) ∈ xs.zipIdx from hp)
    have h2 := (List.getElem?_eq_some_iff.mp h1).1
    have h3 : xs.length ≤ 8 := w
    exact ⟨by show (0 : Int) ≤ (p.2 : Int); omega, by show (p.2 : Int) ≤ 100; omega⟩
  | dic r kvs =>
    cases r with
    | true =>
      obtain ⟨k, hk, rfl⟩ := List.mem_map.mp hq
      have : k ∈ letK := hk
      simp only [letK, List.mem_cons, List.not_mem_nil, or_false] at this
      rcases this with rfl | rfl | rfl | rfl <;> trivial
    | false =>
      obtain ⟨i, hi, rfl⟩ := List.mem_map.mp hq
      have h1 := (srtI_perm _).mem_iff.mp hi
      obtain ⟨p, hp, e⟩ := List.mem_filterMap.mp h1
      obtain ⟨j, ej, z1, z2⟩ := w.2.2 p hp
      rw [ej] at e
      have : j = i := Option.some.inj e
      subst this
      exact ⟨z1, by show j ≤ 100; omega⟩
theorem zip_fs : ∀ (l : List (Key × V)), (l.map (·.1)).zip (l.map (·.2)) = l
  | [] => rfl
  | q :: r => by
    show (q.1, q.2) :: (r.map (·.1)).zip (r.map (·.2)) = _
    rw [zip_fs r]
theorem pair_zip {H : Hp} : ∀ {ks : List Key} {vs ys : List V} {zs : List Addr}, LVR H vs ys → Paired (fun (t : Addr) (q : Key × V) => H t = some (.tup [kV q.1, q.2])) zs (ks.zip vs) → Paired (fun (t : Addr) (q : Key × V) => ∃ v, H t = some (.tup [kV q.1, v]) ∧ VR H v q.2) zs (ks.zip ys)
  | [], _, _, _, _, p => by cases p; exact .nil
  | _ :: _, _, _, _, .nil, p => by cases p; exact .nil
  | _ :: _, _, _, _, .cons r t, p => by
    cases p with
    | cons e p => exact .cons ⟨_, e, r⟩ (pair_zip t p)
theorem putp1 {e : Addr} : putF "entries" (.ref e) [] = ([("entries", .ref e)] : List (Str × V)) := by kernel_rfl
theorem putp2 {e l : Addr} : putF "links" (.ref l) [("entries", .ref e)] = ([("entries", .ref e), ("links", .ref l)] : List (Str × V)) := by kernel_rfl
theorem putp3 {e l z : Addr} : putF "sizes" (.ref z) [("entries", .ref e), ("links", .ref l)] = pcF e l z := by kernel_rfl
def RowsAt (H : Hp) (lt : Addr) (ts : List Addr) (S : Sta) (ks : List Nat) : Prop := H lt = some (.lst (ts.map V.ref)) ∧ Paired (fun t k => RowAt H t k (S.th k)) ts ks
theorem RowsAt.keep {H H' : Hp} {lt : Addr} {ts : List Addr} {S : Sta} {ks : List Nat} (k : Kp H H') (h : RowsAt H lt ts S ks) : RowsAt H' lt ts S ks := ⟨k.ls _ _ h.1, Paired.imp (fun _ _ ⟨lp, z1, z2⟩ => ⟨lp, k.tp _ _ z1, ShownAt.keep k.tp (k.ls _) z2⟩) h.2⟩
theorem RowsAt.same {H H' : Hp} {lt : Addr} {ts : List Addr} {S : Sta} {ks : List Nat} (s : Same H H') (h : RowsAt H lt ts S ks) : RowsAt H' lt ts S ks := h.keep (Kp.of_same s)
theorem dK_put {ks : List Nat} {g : Nat → V} {k : Nat} {v : V} (h : k ∉ ks) : putK (ks.map fun (k : Nat) => ((.inl (k : Int) : Key), g k)) (.inl (k : Int)) v = (ks ++ [k]).map fun (j : Nat) => ((.inl (j : Int) : Key), if j = k then v else g j) := by
  unfold putK
  rw [if_neg, List.map_append]
  · congr 1
    · refine List.map_congr_left fun j hj => ?_
      have : j ≠ k := fun z => h (z ▸ hj)
      rw [if_neg this]
    · show [_] = [((.inl (k : Int) : Key), if k = k then v else g k)]
      rw [if_pos rfl]
  · intro z
    obtain ⟨p, hp, e⟩ := List.any_eq_true.mp z
    obtain ⟨j, hj, rfl⟩ := List.mem_map.mp hp
    have := Sum.inl.inj (of_decide_eq_true e)
    exact h (by rw [← Int.ofNat.inj this]; exact hj)
def spPicInit (K : PySem.W.Frag) : Sp := fun vs H Q _ => ∃ (p dp q : Addr) (S : Sta) (ks : List Nat), vs = [.ref p, .ref q] ∧ H p = some (.ins (ga K "Picture") dp []) ∧ PhoAt H q S ks ∧ PhoOk S ks ∧
  ∀ H', Stp [p] H H' → PicAt K H' p S ks → Q .non H'
theorem ok_Picture_init (T : Tx w K mg) : DefOk ⟨P, w, K, mg, base⟩ 4 (ma K (ga K "Picture") "__init__") ["self", "photo"] (spPicInit K) := by
  refine DefOk.mk' (f_Picture_init T) sc_Picture_init (fun _ _ _ _ _ _ us hl => match us, hl with | [_, _], _ => rfl) (fun vs H Q E h => ?_) (fun cdv A outer s H vs Q E hr h => ?_)
  · obtain ⟨p, dp, q, S, ks, rfl, _⟩ := h
    rfl
  · obtain ⟨p, dp, q, S, ks, rfl, ep, ph, po, k⟩ := h
    have hu := hu_of hr
    refine ⟨_, (pss_cons (ps_asg (pv 1) (pg_tup rfl (pgs_cons (pg_name (i := 2) sc_Picture_init.nd rfl (Or.inl rfl)) (pgs_cons (pg_name (i := 3) sc_Picture_init.nd rfl (Or.inl rfl)) pgs_nil)))) (pss_cons (ps_fld (pv 0) (pe_cg (M := ⟨P, w, K, mg, base⟩) rfl hr rfl (pa_cons (pe_listZip rfl (pa_cons (pe_glob (v := .ref (ga K "NAMES")) rfl (g_NAMES T) rfl) (pa_cons (pv 2) pa_nil)) (by rfl) (z_list T) (by rfl) (z_zip T)) pa_nil)) rfl) (pss_cons (ps_fld (pv 0) pe_dnewK rfl) (pss_cons (ps_fld (pv 0) pe_dnewK rfl) (pss_one (ps_for PassesOwn.never rfl (pi_list (pv 3)) (pg_tup rfl (pgs_cons (pg_name (i := 4) sc_Picture_init.nd rfl (Or.inl rfl)) (pgs_cons (pg_name (i := 5) sc_Picture_init.nd rfl (Or.inl rfl)) (pgs_cons (pg_name (i := 6) sc_Picture_init.nd rfl (Or.inl rfl)) (pgs_cons (pg_name (i := 7) sc_Picture_init.nd rfl (Or.inl rfl)) pgs_nil))))) (pss_cons (ps_dput hu (pe_fld (pv 0) rfl) (pv 4) (pe_ifExp (pt_cmpR op_eq (pv 5) pe_str (nomark _)) (pe_lst pa_nil) (pe_cg (M := ⟨P, w, K, mg, base⟩) rfl hr rfl (pa_cons (pv 6) pa_nil))) rfl) (pss_one (ps_dput hu (pe_fld (pv 0) rfl) (pv 4) (pv 7) rfl))))))))), ?_⟩
    obtain ⟨ln, lt, vs, ts, h1, h2, h3, h4, h5⟩ := id ph
    have hN : ∀ H', SqT K H' (ga K "NAMES") (nmK.map kV) := fun H' => strsB_ok (x_tup_NAMES T) H'
    have lvs : vs.length = 8 := by
      rw [Paired.length h3, List.length_map, ← List.length_map (f := (·.1)), po.nm]; decide
    have nqp : ∀ {a o}, H a = some o → (∀ c d e, o ≠ .ins c d e) → a ≠ p := fun e h z => by rw [z, ep] at e; cases e; exact h _ _ _ rfl
    refine ⟨_, rfl, q, _, rfl, SqT.of h1, rfl, ?_⟩
    refine ⟨_, _, rfl, _, _, rfl, rfl, ?_⟩
    refine ⟨_, _, _, _, g_holdings T, ok_holdings T, by decide, _, rfl, ga K "NAMES", ln, nmK, vs, rfl, hN _, SqL.of h2, by rw [lvs]; decide, fun H1 zl zs s1 nzl nzs nzz gzl pz => ?_⟩
    have shz : ShownAt H1 zl S.names := by
      refine ⟨zs, gzl, ?_⟩
      have h3' : LVR H1 vs (S.names.map (·.2)) := LVR.mono (Same.tup s1) h3
      have e := zip_fs S.names
      rw [po.nm] at e
      rw [← e]
      exact pair_zip h3' pz
    refine ⟨zl, S.names, rfl, shz, ?_, ?_, fun r H2 s2 nr hr => ?_⟩
    · have := congrArg List.length po.nm
      rw [List.length_map] at this
      rw [this]; decide
    · intro q hq
      have : q.1 ∈ nmK := by rw [← po.nm]; exact List.mem_map_of_mem hq
      obtain ⟨x, _, e⟩ := List.mem_map.mp this
      rw [← e]; trivial
    have s12 : Same H H2 := fun b o e => s2 _ _ (s1 _ _ e)
    refine ⟨_, rfl, p, _, dp, _, rfl, s12 _ _ ep, c_Picture T, n_Picture_entries T, by decide, ?_⟩
    rw [putp1]
    have nrp : r ≠ p := fun z => by rw [z, s1 _ _ ep] at nr; cases nr
    have st3 : Stp [p] H (upd H2 p (.ins (ga K "Picture") dp [("entries", .ref r)])) := (Stp.of_same s12).trans' (Stp.upd (.inl List.mem_cons_self))
    have e3 : upd H2 p (.ins (ga K "Picture") dp [("entries", .ref r)]) p = some (.ins (ga K "Picture") dp [("entries", .ref r)]) := upd_same
    have kp3 : Kp H2 (upd H2 p (.ins (ga K "Picture") dp [("entries", .ref r)])) := ⟨tup_upd (by rw [s12 _ _ ep]; intro xs z; cases z; rfl), fun a xs e => by rw [upd_ne (fun z => by rw [z, s12 _ _ ep] at e; cases e)]; exact e⟩
    have hr3 := hr.keep kp3
    have ph3 := (RowsAt.same s12 (lt := lt) (ts := ts) (S := S) (ks := ks) ⟨h4, h5⟩).keep kp3
    generalize upd H2 p (.ins (ga K "Picture") dp [("entries", .ref r)]) = H3 at st3 e3 kp3 hr3 ph3 ⊢
    clear s1 s2 s12 kp3 hr shz pz gzl nr nrp h2 h4 h5 h1
    intro L hL
    have s4 := same_new (o := .dK []) hL
    have e4 := s4 _ _ e3
    have L0 : H L = none := by
      cases z : H L with
      | none => rfl
      | some o =>
        by_cases y : L = p
        · rw [y, e3] at hL; cases hL
        · rw [st3 _ _ z (fun y' => y (List.mem_singleton.mp y'))] at hL; cases hL
    have nLp : L ≠ p := fun z => by rw [z, e3] at hL; cases hL
    refine ⟨_, rfl, p, _, dp, _, rfl, e4, c_Picture T, n_Picture_links T, by show 1 < 1000; decide, ?_⟩
    rw [putp2]
    have go : ∀ {G : Hp} {u : HO} {F : List (Str × V)}, G p = some (.ins (ga K "Picture") dp F) → (∀ c d e, u = .ins c d e → True) → Kp G (upd G p u) := fun e _ => ⟨tup_upd (by rw [e]; intro xs z; cases z; rfl), fun a xs e' => by rw [upd_ne (fun z => by rw [z, e] at e'; cases e')]; exact e'⟩
    have kp5 := go (u := .ins (ga K "Picture") dp [("entries", .ref r), ("links", .ref L)]) e4 (fun _ _ _ _ => trivial)
    have st5 : Stp [p] H (upd (upd H3 L (.dK [])) p (.ins (ga K "Picture") dp [("entries", .ref r), ("links", .ref L)])) := (st3.trans' (Stp.of_same s4)).trans' (Stp.upd (.inl List.mem_cons_self))
    have e5 : upd (upd H3 L (.dK [])) p (.ins (ga K "Picture") dp [("entries", .ref r), ("links", .ref L)]) p = some (.ins (ga K "Picture") dp [("entries", .ref r), ("links", .ref L)]) := upd_same
    have g5 : upd (upd H3 L (.dK [])) p (.ins (ga K "Picture") dp [("entries", .ref r), ("links", .ref L)]) L = some (.dK []) := by rw [upd_ne nLp, upd_same]
    have hr5 := (hr3.same s4).keep kp5
    have ph5 := (ph3.same s4).keep kp5
    generalize upd (upd H3 L (.dK [])) p (.ins (ga K "Picture") dp [("entries", .ref r), ("links", .ref L)]) = H5 at st5 e5 g5 kp5 hr5 ph5 ⊢
    clear s4 e4 hL st3 e3 hr3 ph3 kp5
    intro Z hZ
    have s6 := same_new (o := .dK []) hZ
    have e6 := s6 _ _ e5
    have Z0 : H Z = none := by
      cases z : H Z with
      | none => rfl
      | some o =>
        by_cases y : Z = p
        · rw [y, e5] at hZ; cases hZ
        · rw [st5 _ _ z (fun y' => y (List.mem_singleton.mp y'))] at hZ; cases hZ
    have nZp : Z ≠ p := fun z => by rw [z, e5] at hZ; cases hZ
    have nLZ : L ≠ Z := ne_of_none g5 hZ
    refine ⟨_, rfl, p, _, dp, _, rfl, e6, c_Picture T, n_Picture_sizes T, by show 2 < 1000; decide, ?_⟩
    rw [putp3]
    have kp7 := go (u := .ins (ga K "Picture") dp (pcF r L Z)) e6 (fun _ _ _ _ => trivial)
    have st7 : Stp [p] H (upd (upd H5 Z (.dK [])) p (.ins (ga K "Picture") dp (pcF r L Z))) := (st5.trans' (Stp.of_same s6)).trans' (Stp.upd (.inl List.mem_cons_self))
    have e7 : upd (upd H5 Z (.dK [])) p (.ins (ga K "Picture") dp (pcF r L Z)) p = some (.ins (ga K "Picture") dp (pcF r L Z)) := upd_same
    have g7 : upd (upd H5 Z (.dK [])) p (.ins (ga K "Picture") dp (pcF r L Z)) L = some (.dK []) := by rw [upd_ne nLp]; exact s6 _ _ g5
    have g7' : upd (upd H5 Z (.dK [])) p (.ins (ga K "Picture") dp (pcF r L Z)) Z = some (.dK []) := by rw [upd_ne nZp, upd_same]
    have hr7 := (hr5.same s6).keep kp7
    have ph7 := (ph5.same s6).keep kp7
    generalize upd (upd H5 Z (.dK [])) p (.ins (ga K "Picture") dp (pcF r L Z)) = H7 at st7 e7 g7 g7' kp7 hr7 ph7 ⊢
    clear s6 e6 hZ st5 e5 g5 hr5 ph5 kp7 go
    dsimp only [gName]
    refine ⟨_, rfl, lt, rfl, ⟨_, SqL.of ph7.1⟩, ?_⟩
    refine for_list (K := K) (a := lt) (xs := ts.map V.ref) (fun i σ H' => ∃ (A : Nat → Addr) (x4 x5 x6 x7 : Option V), σ = [some (.ref p), some (.ref q), some (.ref ln), some (.ref lt), x4, x5, x6, x7] ∧ Stp [p] H H' ∧ H' p = some (.ins (ga K "Picture") dp (pcF r L Z)) ∧ HoldAt H' r (holdL S.names) ∧ RowsAt H' lt ts S ks ∧
        H' L = some (.dK ((ks.take i).map fun (k : Nat) => ((.inl (k : Int) : Key), V.ref (A k)))) ∧ (∀ k ∈ ks.take i, HoldAt H' (A k) (lkS S k)) ∧ H' Z = some (.dK ((ks.take i).map fun (k : Nat) => ((.inl (k : Int) : Key), V.int (szS S k)))))
      ⟨fun _ => 0, _, _, _, _, rfl, st7, e7, hr7, ph7, g7, (fun _ z => nomatch z), g7'⟩ (fun j σ H' _ ⟨_, _, _, _, _, _, _, _, _, u, _⟩ => SqL.of u.1) ?_ ?_
    · clear st7 e7 hr7 ph7 g7 g7'
      rintro i x σ H8 hi ⟨A', x4, x5, x6, x7, rfl, st8, e8, hr8, ph8, g8, hA, g8'⟩
      rw [List.getElem?_map] at hi
      obtain ⟨t, ht, rfl⟩ := Option.map_eq_some_iff.mp hi
      obtain ⟨kk, hkk, lp, et, sh⟩ : ∃ kk, ks[i]? = some kk ∧ RowAt H8 t kk (S.th kk) := by
        rcases Paired.at i ph8.2 with ⟨z, _⟩ | ⟨a1, a2, a3, a4, a5⟩
        · rw [ht] at z; cases z
        · rw [ht] at a3; cases a3
          exact ⟨a2, a4, a5⟩
      have kmem := List.mem_of_getElem? hkk
      have il : i < ks.length := (List.getElem?_eq_some_iff.mp hkk).1
      have knew : kk ∉ ks.take i := fun z => by
        have := po.srt
        rw [← List.take_append_drop i ks] at this
        have h1 := (List.pairwise_append.mp this).2.2 kk z kk (by rw [List.drop_eq_getElem_cons il]; rw [(List.getElem?_eq_some_iff.mp hkk).2]; exact List.mem_cons_self)
        exact Nat.lt_irrefl _ h1
      refine ⟨t, _, rfl, SqT.of et, rfl, _, _, rfl, _, _, rfl, _, _, rfl, _, _, rfl, rfl, ?_⟩
      have kw : decide (V.str (S.th kk).body.kind = V.str "watch") = (S.th kk).body.isWat := by
        cases (S.th kk).body with
        | wat s g => kernel_rfl
        | row xs => kernel_rfl
        | dic r kvs => cases r <;> kernel_rfl
      show tIf (tTest (tOp rEq (tVar 5) (tC (V.str "watch")))) (tLst tNil) (tCG ⟨P, w, K, mg, base⟩ 3 "holdings" (tCons (tVar 6) tNil)) _ _ _
      refine exR (fun v H9 => ∃ r', v = .ref r' ∧ Same H8 H9 ∧ HoldAt H9 r' (lkS S kk) ∧ H8 r' = none) (fun Y hY => ?_) ?_
      · refine ⟨_, rfl, rfl, _, rfl, ?_⟩
        rw [kw]
        cases hw : (S.th kk).body.isWat with
        | true =>
          refine if_t rfl ⟨by show 0 ≤ sizeLine; decide, fun g hg => ?_⟩
          exact hY _ _ ⟨g, rfl, same_new hg, ⟨[], upd_same, by unfold lkS; rw [if_pos hw]; exact .nil⟩, hg⟩
        | false =>
          refine if_f rfl ?_
          refine ⟨_, _, _, _, g_holdings T, ok_holdings T, by decide, _, rfl, lp, (S.th kk).body.shown, rfl, sh, Nat.le_trans (Body.shown_len (po.wf kk kmem)) (by decide), shown_keys (po.wf kk kmem), fun r' H9 s9 nr9 hr9 => ?_⟩
          exact hY _ _ ⟨r', rfl, s9, by unfold lkS; rw [if_neg (by rw [hw]; exact Bool.false_ne_true)]; exact hr9, nr9⟩
      rintro v H9 ⟨r', rfl, s9, hr9, nr9⟩
      have e9 := s9 _ _ e8
      have g9 := s9 _ _ g8
      have g9' := s9 _ _ g8'
      refine ⟨_, rfl, p, _, dp, _, _, rfl, e9, c_Picture T, n_Picture_links T, pcF_links, _, rfl, L, _, rfl, DPut.k (k := .inl (kk : Int)) g9 (szl (by rw [List.length_map, List.length_take]; have := po.len; omega)), ?_⟩
      rw [dK_put knew]
      have kp9 : Kp H9 (upd H9 L (.dK ((ks.take i ++ [kk]).map fun (j : Nat) => ((.inl (j : Int) : Key), if j = kk then V.ref r' else V.ref (A' j))))) := ⟨tup_upd (by rw [g9]; intro xs z; cases z; rfl), fun a xs e' => by rw [upd_ne (fun z => by rw [z, g9] at e'; cases e')]; exact e'⟩
      have st9 : Stp [p] H (upd H9 L (.dK ((ks.take i ++ [kk]).map fun (j : Nat) => ((.inl (j : Int) : Key), if j = kk then V.ref r' else V.ref (A' j))))) := fun b o e nb => by
        rw [upd_ne (fun z => by rw [z, L0] at e; cases e)]
        exact s9 _ _ (st8 _ _ e nb)
      have e10 : upd H9 L (.dK ((ks.take i ++ [kk]).map fun (j : Nat) => ((.inl (j : Int) : Key), if j = kk then V.ref r' else V.ref (A' j)))) p = some (.ins (ga K "Picture") dp (pcF r L Z)) := by rw [upd_ne nLp.symm]; exact e9
      have g10 : upd H9 L (.dK ((ks.take i ++ [kk]).map fun (j : Nat) => ((.inl (j : Int) : Key), if j = kk then V.ref r' else V.ref (A' j)))) L = some (.dK ((ks.take i ++ [kk]).map fun (j : Nat) => ((.inl (j : Int) : Key), if j = kk then V.ref r' else V.ref (A' j)))) := upd_same
      have g10' : upd H9 L (.dK ((ks.take i ++ [kk]).map fun (j : Nat) => ((.inl (j : Int) : Key), if j = kk then V.ref r' else V.ref (A' j)))) Z = some (.dK ((ks.take i).map fun (k : Nat) => ((.inl (k : Int) : Key), V.int (szS S k)))) := by rw [upd_ne nLZ.symm]; exact g9'
      have hr10 := (hr8.same s9).keep kp9
      have ph10 := (ph8.same s9).keep kp9
      have hA10 : ∀ k ∈ ks.take i, HoldAt (upd H9 L (.dK ((ks.take i ++ [kk]).map fun (j : Nat) => ((.inl (j : Int) : Key), if j = kk then V.ref r' else V.ref (A' j))))) (A' k) (lkS S k) := fun k hk => ((hA k hk).same s9).keep kp9
      have hn10 := hr9.keep kp9
      generalize upd H9 L (.dK ((ks.take i ++ [kk]).map fun (j : Nat) => ((.inl (j : Int) : Key), if j = kk then V.ref r' else V.ref (A' j)))) = H10 at st9 e10 g10 g10' hr10 ph10 hA10 hn10 ⊢
      clear kp9 g9 g9' e9 s9 hr9 hA hr8 ph8 g8 g8' e8 st8
      refine ⟨_, rfl, _, rfl, p, _, dp, _, _, rfl, e10, c_Picture T, n_Picture_sizes T, pcF_sizes, _, rfl, Z, _, rfl, DPut.k (k := .inl (kk : Int)) g10' (szl (by rw [List.length_map, List.length_take]; have := po.len; omega)), ?_⟩
      rw [dK_put knew]
      have kp11 : Kp H10 (upd H10 Z (.dK ((ks.take i ++ [kk]).map fun (j : Nat) => ((.inl (j : Int) : Key), if j = kk then V.int (S.th kk).body.size else V.int (szS S j))))) := ⟨tup_upd (by rw [g10']; intro xs z; cases z; rfl), fun a xs e' => by rw [upd_ne (fun z => by rw [z, g10'] at e'; cases e')]; exact e'⟩
      have ea : ∀ j ∈ ks.take i, j ≠ kk := fun j hj z => knew (z ▸ hj)
      refine ⟨fun j => if j = kk then r' else A' j, _, _, _, _, rfl, fun b o e nb => by rw [upd_ne (fun z => by rw [z, Z0] at e; cases e)]; exact st9 _ _ e nb, by rw [upd_ne nZp.symm]; exact e10, hr10.keep kp11, ph10.keep kp11, ?_, fun k hk => ?_, ?_⟩
      · rw [upd_ne nLZ, g10, take_snoc hkk]
        congr 2
        refine List.map_congr_left fun j hj => ?_
        show _ = ((.inl (j : Int) : Key), V.ref (if j = kk then r' else A' j))
        by_cases z : j = kk
        · rw [if_pos z, if_pos z]
        · rw [if_neg z, if_neg z]
      · rw [take_snoc hkk] at hk
        rcases List.mem_append.mp hk with h | h
        · show HoldAt _ (if k = kk then r' else A' k) _
          rw [if_neg (ea k h)]
          exact (hA10 k h).keep kp11
        · rw [List.mem_singleton.mp h]
          show HoldAt _ (if kk = kk then r' else A' kk) _
          rw [if_pos rfl]
          exact hn10.keep kp11
      · rw [upd_same, take_snoc hkk]
        congr 2
        refine List.map_congr_left fun j hj => ?_
        by_cases z : j = kk
        · rw [if_pos z, z]; rfl
        · rw [if_neg z]
    · rintro σ H8 ⟨A', x4, x5, x6, x7, rfl, st8, e8, hr8, ph8, g8, hA, g8'⟩
      rw [List.length_map, show ts.length = ks.length from Paired.length ph8.2, List.take_length] at g8 g8' hA
      exact k H8 st8 ⟨dp, r, L, Z, A', e8, hr8, g8, hA, g8', nLZ⟩
end
end WK
namespace WK
open PySem PySem.Spec PyProof.Rows L2 He WB PySem.W
section
variable {P : Program} {w : World} {K : PySem.W.Frag} {mg : Str → Option Value} {base : Heap}
def aheadV : Option Nat → V
  | none => .non
  | some k => .int (k : Int)
abbrev Fnd := List (Nat × Option Nat × Str)
abbrev Wai := List (Option Nat × Str × Nat)
/-- first in, first out: what is found in the end -/
inductive Bfs (nx : Nat → List (Str × Nat)) (am : Nat → Prop) : Fnd → Wai → Fnd → Prop
  | done {F : Fnd} : Bfs nx am F [] F
  | skip {F F' : Fnd} {a : Option Nat} {p : Str} {n : Nat} {W : Wai} : ¬ (am n ∧ n ∉ F.map (·.1)) → Bfs nx am F W F' → Bfs nx am F ((a, p, n) :: W) F'
  | take {F F' : Fnd} {a : Option Nat} {p : Str} {n : Nat} {W : Wai} : am n → n ∉ F.map (·.1) → Bfs nx am (F ++ [(n, a, p)]) (W ++ (nx n).map fun q => (some n, q.1, q.2)) F' → Bfs nx am F ((a, p, n) :: W) F'
theorem Bfs.rch {nx : Nat → List (Str × Nat)} {am : Nat → Prop} {st : List Nat} {F F' : Fnd} {W : Wai} (b : Bfs nx am F W F') :
    (F.map (·.1)).Nodup → (∀ n ∈ F.map (·.1), Rch (fun j => (nx j).map (·.2)) am st n) → (∀ n ∈ W.map (·.2.2), am n → Rch (fun j => (nx j).map (·.2)) am st n) → (∀ s ∈ st, am s → s ∈ F.map (·.1) ∨ s ∈ W.map (·.2.2)) →
    (∀ j ∈ F.map (·.1), ∀ c ∈ (nx j).map (·.2), am c → c ∈ F.map (·.1) ∨ c ∈ W.map (·.2.2)) → (F'.map (·.1)).Nodup ∧ ∀ n, n ∈ F'.map (·.1) ↔ Rch (fun j => (nx j).map (·.2)) am st n := by
  induction b with
  | done =>
    intro nd h1 _ h3 h4
    refine ⟨nd, fun n => ⟨h1 n, fun h => ?_⟩⟩
    induction h with
    | start hs ha => exact (h3 _ hs ha).elim id fun z => nomatch z
    | step _ hk ha ih => exact (h4 _ ih _ hk ha).elim id fun z => nomatch z
  | @skip F F' a p n W hn _ ih =>
    intro nd h1 h2 h3 h4
    have sw : ∀ {c}, am c → c ∈ F.map (·.1) ∨ c ∈ ((a, p, n) :: W).map (·.2.2) → c ∈ F.map (·.1) ∨ c ∈ W.map (·.2.2) := fun {c} ha h => by
      rcases h with h | h
      · exact .inl h
      · rcases List.mem_cons.mp h with h | h
        · have e : c = n := h
          subst e
          by_cases z : c ∈ F.map (·.1)
          · exact .inl z
          · exact absurd ⟨ha, z⟩ hn
        · exact .inr h
    exact ih nd h1 (fun n hn => h2 n (List.mem_cons_of_mem _ hn)) (fun s hs ha => sw ha (h3 s hs ha)) fun j hj c hc ha => sw ha (h4 j hj c hc ha)
  | @take F F' a p n W ha hn _ ih =>
    intro nd h1 h2 h3 h4
    have hr := h2 n List.mem_cons_self ha
    have mF : ∀ {c}, c ∈ (F ++ [(n, a, p)]).map (·.1) ↔ c ∈ F.map (·.1) ∨ c = n := fun {c} => by rw [List.map_append, List.mem_append]; exact or_congr Iff.rfl List.mem_singleton
    have mW : ∀ {c}, c ∈ (W ++ (nx n).map fun q => ((some n : Option Nat), q.1, q.2)).map (·.2.2) ↔ c ∈ W.map (·.2.2) ∨ c ∈ (nx n).map (·.2) := fun {c} => by rw [List.map_append, List.mem_append, List.map_map]; exact Iff.rfl
    have sw : ∀ {c}, c ∈ F.map (·.1) ∨ c ∈ ((a, p, n) :: W).map (·.2.2) → c ∈ (F ++ [(n, a, p)]).map (·.1) ∨ c ∈ (W ++ (nx n).map fun q => ((some n : Option Nat), q.1, q.2)).map (·.2.2) := fun {c} h => by
      rcases h with h | h
      · exact .inl (mF.mpr (.inl h))
      · rcases List.mem_cons.mp h with h | h
        · exact .inl (mF.mpr (.inr h))
        · exact .inr (mW.mpr (.inl h))
    refine ih ?_ (fun c hc => ?_) (fun c hc hac => ?_) (fun s hs has => sw (h3 s hs has)) fun j hj c hc hac => ?_
    · rw [List.map_append]
      exact List.nodup_append.mpr ⟨nd, List.nodup_cons.mpr ⟨(fun z => nomatch z), List.nodup_nil⟩, fun x hx y hy e => hn (by rw [← (show y = n from by simpa using hy), ← e]; exact hx)⟩
    · rcases mF.mp hc with h | h
      · exact h1 c h
      · rw [h]; exact hr
    · rcases mW.mp hc with h | h
      · exact h2 c (List.mem_cons_of_mem _ h) hac
      · exact .step hr h hac
    · rcases mF.mp hj with h | h
      · exact sw (h4 j h c hc hac)
      · rw [h] at hc
        exact .inr (mW.mpr (.inr hc))
def begW (es : List (Str × Nat)) : Wai := es.map fun q => (none, q.1, q.2)
theorem Bfs.all {nx : Nat → List (Str × Nat)} {am : Nat → Prop} {es : List (Str × Nat)} {F : Fnd} (b : Bfs nx am [] (begW es) F) : (F.map (·.1)).Nodup ∧ ∀ n, n ∈ F.map (·.1) ↔ Rch (fun j => (nx j).map (·.2)) am (es.map (·.2)) n := by
  have e : (begW es).map (·.2.2) = es.map (·.2) := by unfold begW; rw [List.map_map]; rfl
  exact b.rch List.nodup_nil (fun _ z => nomatch z) (fun n hn ha => .start (by rw [← e]; exact hn) ha) (fun s hs _ => .inr (by rw [e]; exact hs)) fun _ z => nomatch z
/-- what is found, at D -/
def FoundAt (H : Hp) (D : Addr) (F : Fnd) : Prop := ∃ B : Nat → Addr, H D = some (.dK (F.map fun q => ((.inl (q.1 : Int) : Key), V.ref (B q.1)))) ∧ ∀ q ∈ F, H (B q.1) = some (.tup [aheadV q.2.1, .str q.2.2])
def WaitAt (H : Hp) (W : Addr) (l : Wai) : Prop := ∃ ts : List Addr, H W = some (.lst (ts.map V.ref)) ∧ Paired (fun t q => H t = some (.tup [aheadV q.1, .str q.2.1, .int (q.2.2 : Int)])) ts l
theorem FoundAt.same {H H' : Hp} (s : Same H H') {D : Addr} {F : Fnd} (h : FoundAt H D F) : FoundAt H' D F := by
  obtain ⟨B, e, p⟩ := h
  exact ⟨B, s _ _ e, fun q hq => s _ _ (p q hq)⟩
theorem fnd_some {B : Nat → Addr} {k : Nat} : ∀ {F : Fnd}, (valV (F.map fun q => ((.inl (q.1 : Int) : Key), V.ref (B q.1))) (.inl (k : Int))).isSome = decide (k ∈ F.map (·.1))
  | [] => rfl
  | q :: r => by
    by_cases z : q.1 = k
    · rw [List.map_cons, show valV (((.inl (q.1 : Int) : Key), V.ref (B q.1)) :: r.map fun q => ((.inl (q.1 : Int) : Key), V.ref (B q.1))) (.inl (k : Int)) = some (V.ref (B q.1)) from valV_pos (by rw [z])]
      exact (decide_eq_true (List.mem_cons.mpr (.inl z.symm))).symm
    · rw [List.map_cons, show valV (((.inl (q.1 : Int) : Key), V.ref (B q.1)) :: r.map fun q => ((.inl (q.1 : Int) : Key), V.ref (B q.1))) (.inl (k : Int)) = valV (r.map fun q => ((.inl (q.1 : Int) : Key), V.ref (B q.1))) (.inl (k : Int)) from valV_neg (fun y => z (Int.ofNat.inj (Sum.inl.inj y))), fnd_some]
      rw [List.map_cons]
      by_cases y : k ∈ r.map (·.1)
      · rw [decide_eq_true y, decide_eq_true (List.mem_cons_of_mem _ y)]
      · rw [decide_eq_false y, decide_eq_false fun x => (List.mem_cons.mp x).elim (fun x => z x.symm) y]
theorem FoundAt.has {H : Hp} {D : Addr} {F : Fnd} (h : FoundAt H D F) (k : Nat) : ∃ o, DGet H D (.int (k : Int)) o ∧ o.isSome = decide (k ∈ F.map (·.1)) := by
  obtain ⟨B, e, _⟩ := h
  exact ⟨_, DGet.k (k := .inl (k : Int)) e, fnd_some⟩
/-- what is left of the links -/
def leftS (S : Sta) (ks : List Nat) (F : Fnd) : Nat := ((ks.filter fun k => !(decide (k ∈ F.map (·.1)))).map fun k => (lkS S k).length).sum
theorem left_take {S : Sta} {F : Fnd} {n : Nat} {a : Option Nat} {p : Str} (hn : n ∉ F.map (·.1)) : ∀ {ks : List Nat}, ks.Nodup → n ∈ ks → leftS S ks F = (lkS S n).length + leftS S ks (F ++ [(n, a, p)])
  | [], _, h => by cases h
  | k :: r, nd, h => by
    obtain ⟨n1, n2⟩ := List.nodup_cons.mp nd
    have mF : ∀ {c}, c ∈ (F ++ [(n, a, p)]).map (·.1) ↔ c ∈ F.map (·.1) ∨ c = n := fun {c} => by rw [List.map_append, List.mem_append]; exact or_congr Iff.rfl List.mem_singleton
    unfold leftS
    by_cases z : k = n
    · subst z
      rw [List.filter_cons_of_pos (by simpa using hn), List.filter_cons_of_neg (by simp), List.map_cons, List.sum_cons]
      congr 2
      have : ∀ j ∈ r, j ≠ k := fun j hj e => n1 (e ▸ hj)
      refine congrArg _ (List.filter_congr fun j hj => ?_)
      congr 1
      refine decide_eq_decide.mpr ?_
      rw [mF]
      exact ⟨.inl, fun h => h.elim id fun e => absurd e (this j hj)⟩
    · have hr : n ∈ r := (List.mem_cons.mp h).elim (fun e => absurd e.symm z) id
      have ih := left_take (S := S) (a := a) (p := p) hn n2 hr
      unfold leftS at ih
      by_cases y : k ∈ F.map (·.1)
      · rw [List.filter_cons_of_neg (by simpa using y), List.filter_cons_of_neg (by show ¬ ((!(decide (k ∈ (F ++ [(n, a, p)]).map (·.1)))) = true); rw [decide_eq_true (mF.mpr (.inl y))]; decide)]
        exact ih
      · have y2 : k ∉ (F ++ [(n, a, p)]).map (·.1) := fun w => (mF.mp w).elim y z
        rw [List.filter_cons_of_pos (by simpa using y), List.filter_cons_of_pos (by show (!(decide (k ∈ (F ++ [(n, a, p)]).map (·.1)))) = true; rw [decide_eq_false y2]; rfl), List.map_cons, List.map_cons, List.sum_cons, List.sum_cons, ih]
        omega
theorem lk_len {S : Sta} {k : Nat} (w : (S.th k).body.wf) : (lkS S k).length ≤ 8 := by
  unfold lkS
  split
  · exact Nat.zero_le _
  · exact Nat.le_trans (holdL_len _) (Body.shown_len w)
def spArr (K : PySem.W.Frag) : Sp := fun vs H Q _ => ∃ (p : Addr) (wo : Option Nat) (S : Sta) (ks : List Nat), vs = [.ref p, aheadV wo] ∧ PicG K H p S ks ∧ PhoOk S ks ∧
  ∀ D H' F, Same H H' → H D = none → FoundAt H' D F → Bfs (lkS S) (fun n => wo ≠ some n) [] (begW (holdL S.names)) F → Q (.ref D) H'
def ArrW (H : Hp) (p : Addr) (wo : Option Nat) (S : Sta) (ks : List Nat) (D W : Addr) (z : Nat) (σ : L2.St) (H' : Hp) : Prop :=
  ∃ (F : Fnd) (Wt : Wai) (x3 x4 x6 x7 x8 x9 : Option V), σ = [some (.ref p), some (aheadV wo), some (.ref D), x3, x4, some (.ref W), x6, x7, x8, x9] ∧ Same H H' ∧ FoundAt H' D F ∧ WaitAt H' W Wt ∧ (F.map (·.1)).Nodup ∧ (∀ n ∈ F.map (·.1), n ∈ ks) ∧ (∀ w ∈ Wt, w.2.2 ∈ ks) ∧
    z = Wt.length + leftS S ks F ∧ Wt.length ≤ 8 + 8 * F.length ∧ ∀ F', Bfs (lkS S) (fun n => wo ≠ some n) F Wt F' → Bfs (lkS S) (fun n => wo ≠ some n) [] (begW (holdL S.names)) F'
theorem ok_Picture_arrivals (T : Tx w K mg) : DefOk ⟨P, w, K, mg, base⟩ 1 (ma K (ga K "Picture") "arrivals") ["self", "without"] (spArr K) := by
  refine DefOk.mk' (f_Picture_arrivals T) sc_Picture_arrivals (fun _ _ _ _ _ _ us hl => match us, hl with | [_, _], _ => rfl) (fun vs H Q E h => ?_) (fun cdv A outer s H vs Q E hr h => ?_)
  · obtain ⟨p, wo, S, ks, rfl, _⟩ := h
    rfl
  · obtain ⟨p, wo, S, ks, rfl, pc, po, k⟩ := h
    have hu := hu_of hr
    refine ⟨_, (pss_cons (ps_set (i := 2) sc_Picture_arrivals.nd rfl (Or.inl rfl) pe_dnewK) (pss_cons (ps_setLc (i := 5) (own := [("name", 3), ("number", 4)]) (g := (gTup K 2 (gCons (gName 3) (gCons (gName 4) gNil)))) rfl sc_Picture_arrivals.nd rfl rfl (sw_true rfl rfl rfl (by decide +kernel)) (pi_list (pe_fld (pv 0) rfl)) (blkOk_by (own := [("name", 3), ("number", 4)]) (N := ["self", "without", "found", "name", "number", "waiting", "ahead", "part", "onward", "held"]) (sc := defScope s_Picture_arrivals) (by decide +kernel)) (fun _ _ _ _ _ => (pg_tupK (K := K) rfl rfl (pgs_cons (pg_name (i := 3) sc_Picture_arrivals.nd rfl (Or.inl rfl)) (pgs_cons (pg_name (i := 4) sc_Picture_arrivals.nd rfl (Or.inl rfl)) pgs_nil)))) (fun _ _ _ _ _ => by exact pts_nil) (fun _ _ _ _ _ => by exact (pe_tup (pa_cons pe_non (pa_cons (pv 3) (pa_cons (pv 4) pa_nil)))))) (pss_cons (ps_while PassesOwn.never (pt_truth (pv 5) (by intro _; rfl)) (pss_cons (ps_asg (pe_bm PySem.F.plainAttrs_list PySem.F.slot_list_pop PySem.F.type_list_pop mt_popAt (pv 5) (pa_cons pe_int pa_nil)) (pg_tup rfl (pgs_cons (pg_name (i := 6) sc_Picture_arrivals.nd rfl (Or.inl rfl)) (pgs_cons (pg_name (i := 7) sc_Picture_arrivals.nd rfl (Or.inl rfl)) (pgs_cons (pg_name (i := 4) sc_Picture_arrivals.nd rfl (Or.inr rfl)) pgs_nil))))) (pss_one (ps_if (PW.pt (pw_and (pt_cmpR op_ne (pv 4) (pv 1) (nomark _)) (pw_and1 (pt_cmp (pc_dnotin hu (pv 4) (pv 2)))))) (pss_cons (ps_dput hu (pv 2) (pv 4) (pe_tup (pa_cons (pv 6) (pa_cons (pv 7) pa_nil))) rfl) (pss_one (ps_expr (pe_bm PySem.F.plainAttrs_list PySem.F.slot_list_extend PySem.F.type_list_extend mt_extend (pv 5) (pa_cons (pe_lc (own := [("onward", 8), ("held", 9)]) (g := (gTup K 2 (gCons (gName 8) (gCons (gName 9) gNil)))) rfl sc_Picture_arrivals.nd (pi_list (pe_dget hu (pe_fld (pv 0) rfl) (pv 4) (fun _ _ => rfl))) (blkOk_by (own := [("onward", 8), ("held", 9)]) (N := ["self", "without", "found", "name", "number", "waiting", "ahead", "part", "onward", "held"]) (sc := defScope s_Picture_arrivals) (by decide +kernel)) (fun _ _ _ _ _ => (pg_tupK (K := K) rfl rfl (pgs_cons (pg_name (i := 8) sc_Picture_arrivals.nd rfl (Or.inl rfl)) (pgs_cons (pg_name (i := 9) sc_Picture_arrivals.nd rfl (Or.inl rfl)) pgs_nil)))) (fun _ _ _ _ _ => by exact pts_nil) (fun _ _ _ _ _ => by exact (pe_tup (pa_cons (pv 4) (pa_cons (pv 8) (pa_cons (pv 9) pa_nil)))))) pa_nil))))) pss_nil)))) (pss_one (ps_ret (pv 2)))))), ?_⟩
    obtain ⟨dp, e, l, z, A', h1, h2, h3, h4, h5, nlz⟩ := id pc
    intro D hD
    have s0 := same_new (o := .dK []) hD
    obtain ⟨ts, he, pe⟩ := h2.same s0
    refine ⟨_, rfl, p, _, dp, _, _, rfl, s0 _ _ h1, c_Picture T, n_Picture_entries T, pcF_entries, e, rfl, ⟨_, SqL.of he⟩, fun W hW => ?_⟩
    have nDW : D ≠ W := fun z => by rw [← z, upd_same] at hW; cases hW
    have lts : ts.length ≤ 8 := by
      rw [Paired.length pe]
      refine Nat.le_trans (holdL_len _) ?_
      have := congrArg List.length po.nm
      rw [List.length_map] at this
      rw [this]; decide
    refine lc_list (K := K) (a := e) (xs := ts.map V.ref) (fun i H' => Same (upd H D (.dK [])) H' ∧ WaitAt H' W (begW ((holdL S.names).take i))) ⟨same_new hW, [], upd_same, .nil⟩ (fun i H' _ h => SqL.of (h.1 _ _ he)) ?_ ?_
    · rintro i x H1 hi ⟨s1, us, g1, g2⟩
      rw [List.getElem?_map] at hi
      obtain ⟨t, ht, rfl⟩ := Option.map_eq_some_iff.mp hi
      obtain ⟨q, hq, et⟩ : ∃ q, (holdL S.names)[i]? = some q ∧ upd H D (.dK []) t = some (.tup [.str q.1, .int (q.2 : Int)]) := by
        rcases Paired.at i pe with ⟨z, _⟩ | ⟨a1, a2, a3, a4, a5⟩
        · rw [ht] at z; cases z
        · rw [ht] at a3; cases a3
          exact ⟨a2, a4, a5⟩
      refine ⟨t, _, rfl, SqT.of (s1 _ _ et), rfl, _, _, rfl, _, _, rfl, rfl, rfl, _, rfl, _, rfl, by show 3 ≤ sizeLine; decide, fun g hg => ?_⟩
      have sg := same_new (o := .tup [V.non, V.str q.1, V.int (q.2 : Int)]) hg
      have nWg : W ≠ g := ne_of_none g1 hg
      have tp : Tup H1 (upd (upd H1 g (.tup [V.non, V.str q.1, V.int (q.2 : Int)])) W (.lst (us.map V.ref ++ [.ref g]))) := (Same.tup sg).trans (tup_upd (by rw [sg _ _ g1]; intro xs z; cases z; rfl))
      have lus : us.length ≤ 8 := by
        rw [Paired.length g2]
        unfold begW
        rw [List.length_map, List.length_take]
        have := Paired.length pe
        omega
      refine ⟨_, sg _ _ g1, szl (by rw [List.length_map]; omega), same_mut (s1.trans sg) hW, us ++ [g], by rw [upd_same, List.map_append]; rfl, ?_⟩
      have : begW ((holdL S.names).take (i + 1)) = begW ((holdL S.names).take i) ++ [(none, q.1, q.2)] := by
        unfold begW
        rw [take_snoc hq, List.map_append]; rfl
      rw [this]
      exact Paired.app (Paired.imp (fun _ _ z => tp.tup _ _ z) g2) (.cons (by rw [upd_ne nWg.symm]; exact upd_same) .nil)
    rintro H1 ⟨s1, w1⟩
    rw [List.length_map, show ts.length = (holdL S.names).length from Paired.length pe, List.take_length] at w1
    have sF : Same H H1 := s0.trans s1
    have W0 : H W = none := s0.free hW
    have d1 : H1 D = some (.dK []) := s1 _ _ upd_same
    have kd : ks.Nodup := po.srt.imp fun h => Nat.ne_of_lt h
    have esl : ∀ q ∈ holdL S.names, q.2 ∈ ks := fun q hq => po.es _ (by rw [← holdL_nums]; exact List.mem_map_of_mem hq)
    have lsl : ∀ k ∈ ks, ∀ q ∈ lkS S k, q.2 ∈ ks := fun k hk q hq => po.ls k hk _ (by rw [← lkS_nums]; exact List.mem_map_of_mem hq)
    have l8 : (holdL S.names).length ≤ 8 := by rw [← Paired.length pe]; exact lts
    dsimp only [gName]
    refine ⟨ArrW H p wo S ks D W, ⟨_, [], begW (holdL S.names), _, _, _, _, _, _, rfl, sF, ⟨fun _ => 0, d1, fun _ z => nomatch z⟩, w1, List.nodup_nil, (fun _ z => nomatch z), fun w hw => ?_, rfl, ?_, fun _ h => h⟩, ?_⟩
    · unfold begW at hw
      obtain ⟨q, hq, rfl⟩ := List.mem_map.mp hw
      exact esl q hq
    · unfold begW; rw [List.length_map]; show _ ≤ 8; exact l8
    rintro z σ H2 ⟨F, Wt, x3, x4, x6, x7, x8, x9, rfl, s2, fa, wa, nd, fk, wk, rfl, lw, tr⟩
    obtain ⟨us, gW, pW⟩ := id wa
    refine ⟨_, rfl, _, .inl ⟨_, SqL.of gW, rfl⟩, ?_⟩
    cases Wt with
    | nil =>
      cases pW
      exact if_f rfl ⟨_, rfl, k D H2 F s2 hD fa (tr F .done)⟩
    | cons w0 W' =>
      obtain ⟨a0, p0, n0⟩ := w0
      cases pW with
      | @cons t _ us' _ et pW' =>
        refine if_t rfl ?_
        refine ⟨fun σ' H' => ∃ m', m' < ((a0, p0, n0) :: W').length + leftS S ks F ∧ ArrW H p wo S ks D W m' σ' H', fun _ _ h => h, ?_⟩
        refine ⟨_, rfl, .inl ⟨rfl, _, SqL.of gW⟩, W, _, 0, 0, .ref t, rfl, rfl, gW, by decide, by decide, by unfold seqIndex?; simp, rfl, ?_⟩
        have ee : (List.map V.ref (t :: us')).eraseIdx 0 = us'.map V.ref := rfl
        rw [ee]
        have s3 : Same H (upd H2 W (.lst (us'.map V.ref))) := same_mut s2 W0
        have tp3 : Tup H2 (upd H2 W (.lst (us'.map V.ref))) := tup_upd (by rw [gW]; intro xs z; cases z; rfl)
        obtain ⟨B, fD, fB⟩ := id fa
        have fD3 : upd H2 W (.lst (us'.map V.ref)) D = some (.dK (F.map fun q => ((.inl (q.1 : Int) : Key), V.ref (B q.1)))) := by rw [upd_ne nDW]; exact fD
        have fB3 : ∀ q ∈ F, upd H2 W (.lst (us'.map V.ref)) (B q.1) = some (.tup [aheadV q.2.1, .str q.2.2]) := fun q hq => tp3 _ _ (fB q hq)
        have gW3 : upd H2 W (.lst (us'.map V.ref)) W = some (.lst (us'.map V.ref)) := upd_same
        have pW3 := Paired.imp (fun (_ : Addr) (_ : Option Nat × Str × Nat) z => tp3.tup _ _ z) pW'
        have et3 := tp3 _ _ et
        generalize upd H2 W (.lst (us'.map V.ref)) = H3 at s3 fD3 fB3 gW3 pW3 et3 ⊢
        have fa3 : FoundAt H3 D F := ⟨B, fD3, fB3⟩
        clear tp3 fD fB gW fa s2 wa et pW' ee
        have n0k : n0 ∈ ks := wk _ List.mem_cons_self
        rw [List.length_cons] at lw
        refine ⟨t, _, rfl, SqT.of et3, rfl, _, _, rfl, _, _, rfl, _, _, rfl, rfl, ?_⟩
        have hne : (!decide (V.int (n0 : Int) = aheadV wo)) = decide (wo ≠ some n0) := by
          cases wo with
          | none => rfl
          | some j =>
            by_cases y : j = n0
            · subst y
              rw [decide_eq_false (p := ¬ (some j = some j)) (fun z => z rfl)]
              simp [aheadV]
            · rw [decide_eq_true (show some j ≠ some n0 from fun z => y (Option.some.inj z)), decide_eq_false (show ¬ (V.int (n0 : Int) = aheadV (some j)) from fun z => y (by have := V.int.inj z; omega))]
              rfl
        have sc : scal (V.int (n0 : Int)) (aheadV wo) = true := by cases wo <;> rfl
        obtain ⟨o, go, gs⟩ := fa3.has n0
        have stay : ¬ (wo ≠ some n0 ∧ n0 ∉ F.map (·.1)) → ∃ m', m' < ((a0, p0, n0) :: W').length + leftS S ks F ∧ ArrW H p wo S ks D W m' [some (.ref p), some (aheadV wo), some (.ref D), x3, some (.int (n0 : Int)), some (.ref W), some (aheadV a0), some (.str p0), x8, x9] H3 := fun hn =>
          ⟨W'.length + leftS S ks F, by rw [List.length_cons]; omega, F, W', _, _, _, _, _, _, rfl, s3, fa3, ⟨us', gW3, pW3⟩, nd, fk, fun w hw => wk w (List.mem_cons_of_mem _ hw), rfl, by omega, fun F' h => tr F' (.skip hn h)⟩
        refine ⟨_, rfl, _, rfl, sc, _, rfl, ?_⟩
        show if (!decide (V.int (n0 : Int) = aheadV wo)) = true then _ else _
        rw [hne]
        by_cases h1' : wo ≠ some n0
        case neg =>
          rw [decide_eq_false h1']
          exact if_f rfl (if_f rfl (stay fun z => h1' z.1))
        rw [decide_eq_true h1']
        refine if_t rfl ⟨_, rfl, _, rfl, D, o, rfl, go, _, rfl, ?_⟩
        show if (!o.isSome) = true then _ else _
        rw [gs]
        by_cases h2' : n0 ∈ F.map (·.1)
        · rw [decide_eq_true h2']
          exact if_f rfl (stay fun z => z.2 h2')
        rw [decide_eq_false h2']
        refine if_t rfl ?_
        clear stay
        refine ⟨_, rfl, _, rfl, by show 2 ≤ sizeLine; decide, fun g hg => ?_⟩
        have sg := same_new (o := .tup [aheadV a0, V.str p0]) hg
        have gg : upd H3 g (.tup [aheadV a0, V.str p0]) g = some (.tup [aheadV a0, V.str p0]) := upd_same
        have s4 := s3.trans sg
        have fD4 := sg _ _ fD3
        have fB4 : ∀ q ∈ F, upd H3 g (.tup [aheadV a0, V.str p0]) (B q.1) = some (.tup [aheadV q.2.1, .str q.2.2]) := fun q hq => sg _ _ (fB3 q hq)
        have gW4 := sg _ _ gW3
        have pW4 := Paired.imp (fun (_ : Addr) (_ : Option Nat × Str × Nat) z => sg _ _ z) pW3
        show tVar 2 _ _ _
        dsimp only
        generalize upd H3 g (.tup [aheadV a0, V.str p0]) = H4 at sg gg s4 fD4 fB4 gW4 pW4 ⊢
        clear go gs et3 pW3 gW3 fB3 fD3 fa3 hg sg s3
        have lF : F.length ≤ 1000 := by
          have := nodup_sub_len (F := F.map (·.1)) (am := ks) nd fk
          rw [List.length_map] at this
          have := po.len
          omega
        have eD : (F.map fun q => ((.inl (q.1 : Int) : Key), V.ref (B q.1))) = (F.map (·.1)).map fun (k : Nat) => ((.inl (k : Int) : Key), V.ref (B k)) := by rw [List.map_map]; rfl
        refine ⟨_, rfl, _, rfl, D, _, rfl, DPut.k (k := .inl (n0 : Int)) fD4 (szl (by rw [List.length_map]; omega)), ?_⟩
        rw [eD, dK_put h2']
        have eD5 : (F.map (·.1) ++ [n0]).map (fun (j : Nat) => ((.inl (j : Int) : Key), if j = n0 then V.ref g else V.ref (B j))) = (F ++ [(n0, a0, p0)]).map fun q => ((.inl (q.1 : Int) : Key), V.ref (if q.1 = n0 then g else B q.1)) := by
          rw [List.map_append, List.map_append, List.map_map]
          congr 1
          · refine List.map_congr_left fun q hq => ?_
            show ((.inl (q.1 : Int) : Key), if q.1 = n0 then V.ref g else V.ref (B q.1)) = _
            split <;> rfl
          · show [((.inl (n0 : Int) : Key), if n0 = n0 then V.ref g else V.ref (B n0))] = [((.inl (n0 : Int) : Key), V.ref (if n0 = n0 then g else B n0))]
            rw [if_pos rfl, if_pos rfl]
        rw [eD5]
        have tp5 : Tup H4 (upd H4 D (.dK ((F ++ [(n0, a0, p0)]).map fun q => ((.inl (q.1 : Int) : Key), V.ref (if q.1 = n0 then g else B q.1))))) := tup_upd (by rw [fD4]; intro xs z; cases z; rfl)
        have s5 : Same H (upd H4 D (.dK ((F ++ [(n0, a0, p0)]).map fun q => ((.inl (q.1 : Int) : Key), V.ref (if q.1 = n0 then g else B q.1))))) := same_mut s4 hD
        have fD5 : upd H4 D (.dK ((F ++ [(n0, a0, p0)]).map fun q => ((.inl (q.1 : Int) : Key), V.ref (if q.1 = n0 then g else B q.1)))) D = some (.dK ((F ++ [(n0, a0, p0)]).map fun q => ((.inl (q.1 : Int) : Key), V.ref (if q.1 = n0 then g else B q.1)))) := upd_same
        have fB5 : ∀ q ∈ F ++ [(n0, a0, p0)], upd H4 D (.dK ((F ++ [(n0, a0, p0)]).map fun q => ((.inl (q.1 : Int) : Key), V.ref (if q.1 = n0 then g else B q.1)))) (if q.1 = n0 then g else B q.1) = some (.tup [aheadV q.2.1, .str q.2.2]) := fun q hq => by
          rcases List.mem_append.mp hq with h | h
          · rw [if_neg (show ¬ q.1 = n0 from fun z => h2' (by rw [← z]; exact List.mem_map_of_mem (f := (·.1)) h))]
            exact tp5 _ _ (fB4 q h)
          · rw [List.mem_singleton.mp h, if_pos rfl]
            exact tp5 _ _ gg
        have gW5 : upd H4 D (.dK ((F ++ [(n0, a0, p0)]).map fun q => ((.inl (q.1 : Int) : Key), V.ref (if q.1 = n0 then g else B q.1)))) W = some (.lst (us'.map V.ref)) := by rw [upd_ne nDW.symm]; exact gW4
        have pW5 := Paired.imp (fun (_ : Addr) (_ : Option Nat × Str × Nat) z => tp5.tup _ _ z) pW4
        generalize upd H4 D (.dK ((F ++ [(n0, a0, p0)]).map fun q => ((.inl (q.1 : Int) : Key), V.ref (if q.1 = n0 then g else B q.1)))) = H5 at s5 fD5 fB5 gW5 pW5 tp5 ⊢
        have fa5 : FoundAt H5 D (F ++ [(n0, a0, p0)]) := ⟨fun j => if j = n0 then g else B j, fD5, fB5⟩
        clear tp5 gW4 pW4 fB4 fD4 gg s4 eD eD5
        obtain ⟨tl, hl0, pl0⟩ := (h4 n0 n0k).same s5
        have ltl : tl.length ≤ 8 := by rw [Paired.length pl0]; exact lk_len (po.wf n0 n0k)
        refine ⟨_, rfl, .inl ⟨rfl, _, SqL.of gW5⟩, _, rfl, p, _, dp, _, _, rfl, s5 _ _ h1, c_Picture T, n_Picture_links T, pcF_links, _, rfl, l, .ref (A' n0), rfl, by have := LinkAt.get (k := .inl (n0 : Int)) (h3.same s5); rw [val_live n0k] at this; exact this, A' n0, rfl, ⟨_, SqL.of hl0⟩, fun R hR => ?_⟩
        refine lc_list (K := K) (a := A' n0) (xs := tl.map V.ref) (fun i H' => Same H5 H' ∧ WaitAt H' R (((lkS S n0).take i).map fun q => (some n0, q.1, q.2))) ⟨same_new hR, [], upd_same, .nil⟩ (fun i H' _ h => SqL.of (h.1 _ _ hl0)) ?_ ?_
        · rintro i x H6 hi ⟨s6, vs, g6, p6⟩
          rw [List.getElem?_map] at hi
          obtain ⟨t2, ht, rfl⟩ := Option.map_eq_some_iff.mp hi
          obtain ⟨q, hq, et2⟩ : ∃ q, (lkS S n0)[i]? = some q ∧ H5 t2 = some (.tup [.str q.1, .int (q.2 : Int)]) := by
            rcases Paired.at i pl0 with ⟨z, _⟩ | ⟨a1, a2, a3, a4, a5⟩
            · rw [ht] at z; cases z
            · rw [ht] at a3; cases a3
              exact ⟨a2, a4, a5⟩
          refine ⟨t2, _, rfl, SqT.of (s6 _ _ et2), rfl, _, _, rfl, _, _, rfl, rfl, rfl, _, rfl, _, rfl, _, rfl, by show 3 ≤ sizeLine; decide, fun c hc => ?_⟩
          have sc := same_new (o := .tup [V.int (n0 : Int), V.str q.1, V.int (q.2 : Int)]) hc
          have nRc : R ≠ c := ne_of_none g6 hc
          have tp : Tup H6 (upd (upd H6 c (.tup [V.int (n0 : Int), V.str q.1, V.int (q.2 : Int)])) R (.lst (vs.map V.ref ++ [.ref c]))) := (Same.tup sc).trans (tup_upd (by rw [sc _ _ g6]; intro xs z; cases z; rfl))
          have lvs : vs.length ≤ 8 := by
            rw [Paired.length p6, List.length_map, List.length_take]
            have := Paired.length pl0
            omega
          refine ⟨_, sc _ _ g6, szl (by rw [List.length_map]; omega), same_mut (s6.trans sc) hR, vs ++ [c], by rw [upd_same, List.map_append]; rfl, ?_⟩
          rw [take_snoc hq, List.map_append]
          exact Paired.app (Paired.imp (fun _ _ z => tp.tup _ _ z) p6) (.cons (by rw [upd_ne nRc.symm]; exact upd_same) .nil)
        rintro H6 ⟨s6, vs, g6, p6⟩
        rw [List.length_map, show tl.length = (lkS S n0).length from Paired.length pl0, List.take_length] at p6
        have gW6 := s6 _ _ gW5
        have lus : us'.length = W'.length := Paired.length pW5
        have lvs : vs.length = (lkS S n0).length := by rw [Paired.length p6, List.length_map]
        have lk8 := lk_len (po.wf n0 n0k)
        refine ⟨W, R, _, _, rfl, rfl, gW6, g6, Nat.le_trans (show _ ≤ 9000 by rw [List.length_map, List.length_map]; omega) (by decide), ?_⟩
        have tp7 : Tup H6 (upd H6 W (.lst (us'.map V.ref ++ vs.map V.ref))) := tup_upd (by rw [gW6]; intro xs z; cases z; rfl)
        have hlt := left_take (S := S) (a := a0) (p := p0) h2' kd n0k
        obtain ⟨B5, fD6, fB6⟩ := fa5.same s6
        refine ⟨(W' ++ (lkS S n0).map fun q => ((some n0 : Option Nat), q.1, q.2)).length + leftS S ks (F ++ [(n0, a0, p0)]), by rw [List.length_append, List.length_map, List.length_cons, hlt]; omega, F ++ [(n0, a0, p0)], W' ++ (lkS S n0).map fun q => ((some n0 : Option Nat), q.1, q.2), _, _, _, _, _, _, rfl, same_mut (s5.trans s6) W0, ⟨B5, by rw [upd_ne nDW]; exact fD6, fun q hq => tp7 _ _ (fB6 q hq)⟩, ⟨us' ++ vs, by rw [upd_same, List.map_append], Paired.app (Paired.imp (fun _ _ z => tp7.tup _ _ (s6 _ _ z)) pW5) (Paired.imp (fun _ _ z => tp7.tup _ _ z) p6)⟩, ?_, fun c hc => ?_, fun w hw => ?_, rfl, ?_, fun F' h => tr F' (.take h1' h2' h)⟩
        · rw [List.map_append]
          exact List.nodup_append.mpr ⟨nd, List.nodup_cons.mpr ⟨(fun z => nomatch z), List.nodup_nil⟩, fun x hx y hy e => h2' (by rw [← (show y = n0 from by simpa using hy), ← e]; exact hx)⟩
        · rw [List.map_append] at hc
          rcases List.mem_append.mp hc with h | h
          · exact fk c h
          · rw [show c = n0 from by simpa using h]; exact n0k
        · rcases List.mem_append.mp hw with h | h
          · exact wk w (List.mem_cons_of_mem _ h)
          · obtain ⟨q, hq, rfl⟩ := List.mem_map.mp h
            exact lsl n0 n0k q hq
        · rw [List.length_append, List.length_append, List.length_map]
          show _ ≤ 8 + 8 * (F.length + 1)
          omega
end
end WK
namespace WK
open PySem PySem.Spec PyProof.Rows L2 He WB PySem.W
section
variable {P : Program} {w : World} {K : PySem.W.Frag} {mg : Str → Option Value} {base : Heap}
/-- in reach without k -/
def Wout (S : Sta) (k : Nat) : Nat → Prop := Rch (heldS S) (· ≠ k) (numsS S)
noncomputable def keepL (S : Sta) (ks : List Nat) (k : Nat) : List Nat := ks.filter fun j => !(@decide (Wout S k j) (Classical.propDecidable _))
theorem keepL_mem {S : Sta} {ks : List Nat} {k j : Nat} : j ∈ keepL S ks k ↔ j ∈ ks ∧ ¬ Wout S k j := by
  unfold keepL
  rw [List.mem_filter]
  refine and_congr_right fun _ => ?_
  rw [Bool.not_eq_true', @decide_eq_false_iff_not _ (Classical.propDecidable _)]
theorem rch_mono {nx : Nat → List Nat} {am am' : Nat → Prop} {st : List Nat} (h : ∀ k, am k → am' k) {k : Nat} (r : Rch nx am st k) : Rch nx am' st k := by
  induction r with
  | start hs ha => exact .start hs (h _ ha)
  | step _ hk ha ih => exact .step ih hk (h _ ha)
theorem bfs_wout {S : Sta} {k : Nat} {F : Fnd} (b : Bfs (lkS S) (fun n => some k ≠ some n) [] (begW (holdL S.names)) F) (n : Nat) : n ∈ F.map (·.1) ↔ Wout S k n := by
  have h := b.all.2 n
  have e1 : (fun j => (lkS S j).map (·.2)) = heldS S := funext fun j => lkS_nums S j
  have e2 : (holdL S.names).map (·.2) = numsS S := holdL_nums _
  rw [e1, e2] at h
  refine h.trans ⟨rch_mono fun j hj e => hj (by rw [e]), rch_mono fun j hj e => hj (Option.some.inj e).symm⟩
theorem keep_of {S : Sta} {ks : List Nat} {k : Nat} {F : Fnd} (b : Bfs (lkS S) (fun n => some k ≠ some n) [] (begW (holdL S.names)) F) : ks.filter (fun j => !(decide (j ∈ F.map (·.1)))) = keepL S ks k := by
  unfold keepL
  refine List.filter_congr fun j _ => ?_
  congr 1
  exact @decide_eq_decide _ _ _ (Classical.propDecidable _) |>.mpr (bfs_wout b j)
def spPicCheck (K : PySem.W.Frag) : Sp := fun vs H Q _ => ∃ (p : Addr) (k : Nat) (S : Sta) (ks : List Nat), vs = [.ref p, .int (k : Int)] ∧ PicAt K H p S ks ∧ k ∈ ks ∧ Q .non H
theorem ok_Picture_check_thing (T : Tx w K mg) : DefOk ⟨P, w, K, mg, base⟩ 1 (ma K (ga K "Picture") "check_thing") ["self", "number"] (spPicCheck K) := by
  refine DefOk.mk' (f_Picture_check_thing T) sc_Picture_check_thing (fun _ _ _ _ _ _ us hl => match us, hl with | [_, _], _ => rfl) (fun vs H Q E h => ?_) (fun cdv A outer s H vs Q E hr h => ?_)
  · obtain ⟨p, k, S, ks, rfl, _⟩ := h
    rfl
  · obtain ⟨p, k, S, ks, rfl, pc, hk, q⟩ := h
    have hu := hu_of hr
    refine ⟨_, (pss_one (ps_if (PW.pt (pw_or (pt_val (pe_callB call_isi (by rfl) (z_isinstance T) (by decide +kernel) (pa_cons (pv 1) (pa_cons (pe_bltn (v := .ty "bool") (by rfl) (z_bool T) (by decide +kernel) rfl) pa_nil)))) (pw_or1 (pt_cmp (pc_dnotin hu (pv 1) (pe_fld (pv 0) rfl)))))) (pss_one ps_never) pss_nil)), ?_⟩
    obtain ⟨dp, e, l, z, A', h1, h2, h3, h4, h5, nlz⟩ := id pc
    refine ⟨_, rfl, _, _, _, _, _, rfl, .ty _, .base (.int _), kit_ty (r := false) (by decide +kernel), _, rfl, if_f rfl ?_⟩
    refine ⟨_, rfl, _, rfl, p, _, dp, _, _, rfl, h1, c_Picture T, n_Picture_links T, pcF_links, l, some (V.ref (A' k)), rfl, by have := DGet.k (k := .inl (k : Int)) h3; rw [val_live hk] at this; exact this, _, rfl, ?_⟩
    exact if_f rfl q
def spKeptBy (K : PySem.W.Frag) : Sp := fun vs H Q _ => ∃ (p : Addr) (k : Nat) (S : Sta) (ks : List Nat), vs = [.ref p, .int (k : Int)] ∧ PicG K H p S ks ∧ PhoOk S ks ∧
  ∀ r H', Same H H' → H r = none → H' r = some (.lst (nV (keepL S ks k))) → Q (.ref r) H'
theorem ok_Picture_kept_by (T : Tx w K mg) : DefOk ⟨P, w, K, mg, base⟩ 2 (ma K (ga K "Picture") "kept_by") ["self", "number"] (spKeptBy K) := by
  refine DefOk.mk' (f_Picture_kept_by T) sc_Picture_kept_by (fun _ _ _ _ _ _ us hl => match us, hl with | [_, _], _ => rfl) (fun vs H Q E h => ?_) (fun cdv A outer s H vs Q E hr h => ?_)
  · obtain ⟨p, k, S, ks, rfl, _⟩ := h
    rfl
  · obtain ⟨p, kk, S, ks, rfl, pc, po, k⟩ := h
    have hu := hu_of hr
    refine ⟨_, (pss_cons (ps_set (i := 2) sc_Picture_kept_by.nd rfl (Or.inr rfl) (pe_md (M := ⟨P, w, K, mg, base⟩) rfl hr (pv 0) (pa_cons (pv 1) pa_nil))) (pss_one (ps_ret (pe_or2 (pe_lock (pe_lc (own := [("other", 3)]) (g := (gName 3)) rfl sc_Picture_kept_by.nd (pi_keys (pe_fld (pv 0) rfl)) (blkOk_by (own := [("other", 3)]) (N := ["self", "number", "free", "other"]) (sc := defScope s_Picture_kept_by) (by decide +kernel)) (fun _ _ _ _ _ => (pg_name (i := 3) sc_Picture_kept_by.nd rfl (Or.inl rfl))) (fun _ _ _ _ _ => by exact (pts_one (pt_cmp (pc_dnotin hu (pv 3) (pv 2))))) (fun _ _ _ _ _ => by exact (pv 3)))) (pe_lc (own := [("other", 3)]) (g := (gName 3)) rfl sc_Picture_kept_by.nd (pi_keys (pe_fld (pv 0) rfl)) (blkOk_by (own := [("other", 3)]) (N := ["self", "number", "free", "other"]) (sc := defScope s_Picture_kept_by) (by decide +kernel)) (fun _ _ _ _ _ => (pg_name (i := 3) sc_Picture_kept_by.nd rfl (Or.inl rfl))) (fun _ _ _ _ _ => by exact (pts_one (pt_cmp (pc_dnotin hu (pv 3) (pv 2))))) (fun _ _ _ _ _ => by exact (pv 3))))))), ?_⟩
    obtain ⟨dp, e, l, z, A', h1, h2, h3, h4, h5, nlz⟩ := id pc
    refine ⟨_, rfl, p, _, dp, _, _, _, _, _, rfl, h1, (by kernel_rfl), c_Picture T, t_Picture_arrivals T, ok_Picture_arrivals T, by decide, _, rfl, p, some kk, S, ks, rfl, pc, po, fun D H1 F s1 nD fa bf => ?_⟩
    rw [← keep_of bf] at k
    have h3' := h3.same s1
    have h1' := s1 _ _ h1
    dsimp only [gName]
    have npl : p ≠ l := fun z => by
      rcases h3 with h3 | ⟨od, h3⟩
      · rw [z, h3] at h1; cases h1
      · rw [z, h3] at h1; cases h1
    have nDl : D ≠ l := fun z => by
      rcases h3 with h3 | ⟨od, h3⟩
      · rw [z, h3] at nD; cases nD
      · rw [z, h3] at nD; cases nD
    have lks : ks.length ≤ 1000 := po.len
    obtain ⟨B, fD, fB⟩ := id fa
    have core : ∀ (G : Hp) (od : Obj) (Y : V → Hp → Prop), G l = some (.frz od (.dK (ks.map fun (k : Nat) => ((.inl (k : Int) : Key), V.ref (A' k))))) → G p = some (.ins (ga K "Picture") dp (pcF e l z)) → G D = some (.dK (F.map fun q => ((.inl (q.1 : Int) : Key), V.ref (B q.1)))) →
        (∀ R H2, Same G H2 → G R = none → H2 R = some (.lst (nV (ks.filter fun j => !(decide (j ∈ F.map (·.1)))))) → Y (.ref R) H2) →
        tLc (iKeys (tFld K (tVar 0) "links")) (gName 3) (tB (tDNotIn (tVar 3) (tVar 2))) (tVar 3) (List.map (fun x => x.2) [(("other" : Str), 3)]) [some (.ref p), some (.int (kk : Int)), some (.ref D), none] G Y := fun G od Y gl gp gD hY => by
      refine ⟨_, rfl, p, _, dp, _, _, rfl, gp, c_Picture T, n_Picture_links T, pcF_links, l, od, rfl, .inl ⟨_, gl, fun R hR => ?_⟩⟩
      refine lc_it walk_keys (fun i H' => Same G H' ∧ H' R = some (.lst (nV ((ks.take i).filter fun j => !(decide (j ∈ F.map (·.1))))))) ⟨same_new hR, upd_same⟩ (fun i H' _ h => h.1 _ _ gl) ?_ ?_
      · rintro i x H2 H3 hi ⟨s2, e8⟩ ⟨rfl, kx, vx, hkv, rfl⟩
        rw [List.getElem?_map] at hkv
        obtain ⟨j, hj, ej⟩ := Option.map_eq_some_iff.mp hkv
        obtain ⟨rfl, rfl⟩ := Prod.mk.inj ej
        have nx : (ks.take (i + 1)).filter (fun j => !(decide (j ∈ F.map (·.1)))) = (ks.take i).filter (fun j => !(decide (j ∈ F.map (·.1)))) ++ (if j ∈ F.map (·.1) then [] else [j]) := by
          rw [take_snoc hj, List.filter_append]
          congr 1
          by_cases z : j ∈ F.map (·.1)
          · rw [if_pos z, List.filter_cons, if_neg (by rw [decide_eq_true z]; decide)]; rfl
          · rw [if_neg z, List.filter_cons, if_pos (by rw [decide_eq_false z]; rfl)]; rfl
        refine ⟨rfl, ?_⟩
        refine ⟨_, rfl, _, rfl, D, _, rfl, DGet.k (k := .inl (j : Int)) (s2 _ _ gD), _, rfl, ?_⟩
        show if (!(valV (F.map fun q => ((.inl (q.1 : Int) : Key), V.ref (B q.1))) (.inl (j : Int))).isSome) = true then _ else _
        rw [fnd_some]
        by_cases z : j ∈ F.map (·.1)
        · rw [if_pos z, List.append_nil] at nx
          rw [decide_eq_true z]
          exact if_f rfl ⟨s2, by rw [nx]; exact e8⟩
        · rw [if_neg z] at nx
          rw [decide_eq_false z]
          refine if_t rfl ⟨_, rfl, _, e8, szl ?_, same_mut s2 hR, ?_⟩
          · unfold nV
            rw [List.length_map]
            exact Nat.le_trans (List.length_filter_le _ _) (by rw [List.length_take]; omega)
          · rw [upd_same, nx]; unfold nV; rw [List.map_append]; rfl
      rintro H2 ⟨s2, e8⟩
      rw [List.length_map, List.take_length] at e8
      exact hY R H2 s2 hR e8
    rcases h3' with h3' | ⟨od, h3'⟩
    · refine .inl ⟨l, _, h3', trivial, fun od => core _ od _ upd_same (by rw [upd_ne npl]; exact h1') (by rw [upd_ne nDl]; exact fD) fun R H2 s2 hR e8 => ?_⟩
      have nRl : R ≠ l := fun z => by rw [z, upd_same] at hR; cases hR
      have hR1 : H1 R = none := by rw [upd_ne nRl] at hR; exact hR
      refine ⟨s2 _ _ upd_same, ?_⟩
      have s3 : Same H1 (upd H2 l (.dK (ks.map fun (k : Nat) => ((.inl (k : Int) : Key), V.ref (A' k))))) := lock_same (od := od) h3' s2
      exact k R _ (s1.trans s3) (s1.free hR1) (by rw [upd_ne nRl]; exact e8)
    · exact .inr (core H1 od _ h3' h1' fD fun R H2 s2 hR e8 => k R H2 (s1.trans s2) (s1.free hR) e8)
def spKeeps (K : PySem.W.Frag) : Sp := fun vs H Q _ => ∃ (q : Addr) (k : Nat) (S : Sta) (ks : List Nat), vs = [.ref q, .int (k : Int)] ∧ PhoAt H q S ks ∧ PhoOk S ks ∧ k ∈ ks ∧
  ∀ r H', Same H H' → H r = none → H' r = some (.lst (nV (keepL S ks k))) → Q (.ref r) H'
theorem ok_keeps (T : Tx w K mg) : DefOk ⟨P, w, K, mg, base⟩ 6 (ga K "keeps") ["photo", "number"] (spKeeps K) := by
  refine DefOk.mk' (f_keeps T) sc_keeps (fun _ _ _ _ _ _ us hl => match us, hl with | [_, _], _ => rfl) (fun vs H Q E h => ?_) (fun cdv A outer s H vs Q E hr h => ?_)
  · obtain ⟨q, k, S, ks, rfl, _⟩ := h
    rfl
  · obtain ⟨q, kk, S, ks, rfl, ph, po, hk, k⟩ := h
    have hu := hu_of hr
    refine ⟨_, (pss_cons (ps_set (i := 2) sc_keeps.nd rfl (Or.inl rfl) (pe_mg (M := ⟨P, w, K, mg, base⟩) rfl hr rfl (pa_cons (pv 0) pa_nil))) (pss_cons (ps_expr (pe_md (M := ⟨P, w, K, mg, base⟩) rfl hr (pv 2) (pa_cons (pv 1) pa_nil))) (pss_one (ps_ret (pe_md (M := ⟨P, w, K, mg, base⟩) rfl hr (pv 2) (pa_cons (pv 1) pa_nil)))))), ?_⟩
    refine ⟨_, _, _, _, _, g_Picture T, m_Picture T, ok_Picture_init T, by decide, _, rfl, fun p dp np ndp nep => ⟨p, dp, q, S, ks, rfl, upd_same, ?_, po, fun H1 st pc => ⟨rfl, ?_⟩⟩⟩
    · exact ph.same (same_mut (same_new ndp) np)
    have sM : Same H (upd (upd H dp (.own p)) p (.ins (ga K "Picture") dp [])) := same_mut (same_new ndp) np
    have s1 : Same H H1 := fun b o e => st _ _ (sM _ _ e) (fun z => by rw [List.mem_singleton.mp z, np] at e; cases e)
    obtain ⟨dp', e, l, z, A', h1, _⟩ := id pc
    refine ⟨_, rfl, p, _, dp', _, _, _, _, _, rfl, h1, (by kernel_rfl), c_Picture T, t_Picture_check_thing T, ok_Picture_check_thing T, by decide, _, rfl, p, kk, S, ks, rfl, pc, hk, ?_⟩
    refine ⟨_, rfl, p, _, dp', _, _, _, _, _, rfl, h1, (by kernel_rfl), c_Picture T, t_Picture_kept_by T, ok_Picture_kept_by T, by decide, _, rfl, p, kk, S, ks, rfl, pc.g, po, fun r H2 s2 nr hr => ?_⟩
    exact k r H2 (s1.trans s2) (s1.free nr) hr
end
end WK
namespace WK
open PySem PySem.Spec PyProof.Rows L2 He WB PySem.W
section
variable {P : Program} {w : World} {K : PySem.W.Frag} {mg : Str → Option Value} {base : Heap}
theorem rep_natsZ {H : Hp} {a : Addr} {ks : List Nat} (e : H a = some (.lst (nV ks))) (l : ks.length ≤ 1000) : RepN H 2 (.ref a) (.lst (ks.map fun (k : Nat) => Tr.int (k : Int))) := by
  refine ⟨a, _, rfl, e, by rw [List.length_map]; exact l, ?_⟩
  unfold nV
  clear e l
  induction ks with
  | nil => exact .nil
  | cons k r ih => exact .cons rfl ih
theorem keep_len {S : Sta} {ks : List Nat} {k : Nat} : (keepL S ks k).length ≤ ks.length := List.length_filter_le _ _
end
end WK
namespace WK
open PySem PySem.Spec PyProof.Rows L2 He WB PySem.W
section
variable {P : Program} {w : World} {K : PySem.W.Frag} {mg : Str → Option Value} {base : Heap}
/-- the sizes of what k keeps, together -/
noncomputable def totS (S : Sta) (ks : List Nat) (k : Nat) : Int := ((keepL S ks k).map (szS S)).sum
theorem dK_int {ks : List Nat} {g : Nat → Int} {k : Nat} (h : k ∈ ks) : valV (ks.map fun (k : Nat) => ((.inl (k : Int) : Key), V.int (g k))) (.inl (k : Int)) = some (.int (g k)) := by
  induction ks with
  | nil => cases h
  | cons j r ih =>
    by_cases e : j = k
    · subst e; exact valV_pos rfl
    · have ne : ¬ ((.inl (j : Int) : Key) = .inl (k : Int)) := fun z => e (Int.ofNat.inj (Sum.inl.inj z))
      rw [List.map_cons, valV_neg (p := ((.inl (j : Int) : Key), V.int (g j))) ne]
      exact ih ((List.mem_cons.mp h).elim (fun z => absurd z.symm e) id)
def spTotOf (K : PySem.W.Frag) : Sp := fun vs H Q _ => ∃ (p : Addr) (k : Nat) (S : Sta) (ks : List Nat), vs = [.ref p, .int (k : Int)] ∧ PicG K H p S ks ∧ PhoOk S ks ∧
  ∀ H', Same H H' → Q (.int (totS S ks k)) H'
theorem ok_Picture_total_of (T : Tx w K mg) : DefOk ⟨P, w, K, mg, base⟩ 3 (ma K (ga K "Picture") "total_of") ["self", "number"] (spTotOf K) := by
  refine DefOk.mk' (f_Picture_total_of T) sc_Picture_total_of (fun _ _ _ _ _ _ us hl => match us, hl with | [_, _], _ => rfl) (fun vs H Q E h => ?_) (fun cdv A outer s H vs Q E hr h => ?_)
  · obtain ⟨p, k, S, ks, rfl, _⟩ := h
    rfl
  · obtain ⟨p, kk, S, ks, rfl, pc, po, k⟩ := h
    have hu := hu_of hr
    refine ⟨_, (pss_one (ps_ret (pe_callB (cr_sum rfl) (by rfl) (z_sum T) (by decide +kernel) (pa_cons (pe_lc (own := [("other", 2)]) (g := (gName 2)) rfl sc_Picture_total_of.nd (pi_list (pe_md (M := ⟨P, w, K, mg, base⟩) rfl hr (pv 0) (pa_cons (pv 1) pa_nil))) (blkOk_by (own := [("other", 2)]) (N := ["self", "number", "other"]) (sc := defScope s_Picture_total_of) (by decide +kernel)) (fun _ _ _ _ _ => (pg_name (i := 2) sc_Picture_total_of.nd rfl (Or.inl rfl))) (fun _ _ _ _ _ => by exact pts_nil) (fun _ _ _ _ _ => by exact (pe_dget hu (pe_fldK (K := K) rfl (pv 0) rfl) (pv 2) (fun _ _ => rfl)))) pa_nil)))), ?_⟩
    obtain ⟨dp, e, l, z, A', h1, h2, h3, h4, h5, nlz⟩ := id pc
    have lks := po.len
    have lkp : (keepL S ks kk).length ≤ ks.length := keep_len
    refine ⟨_, rfl, p, _, dp, _, _, _, _, _, rfl, h1, (by kernel_rfl), c_Picture T, t_Picture_kept_by T, ok_Picture_kept_by T, by decide, _, rfl, p, kk, S, ks, rfl, pc, po, fun r H1 s1 nr gr => ?_⟩
    refine ⟨r, rfl, ⟨_, SqL.of gr⟩, fun R hR => ?_⟩
    refine lc_list (K := K) (a := r) (xs := nV (keepL S ks kk)) (fun i H' => Same H1 H' ∧ H' R = some (.lst ((((keepL S ks kk).take i).map (szS S)).map V.int))) ⟨same_new hR, upd_same⟩ (fun i H' _ h => SqL.of (h.1 _ _ gr)) ?_ ?_
    · rintro i x H2 hi ⟨s2, g2⟩
      unfold nV at hi
      rw [List.getElem?_map] at hi
      obtain ⟨j, hj, rfl⟩ := Option.map_eq_some_iff.mp hi
      have jm : j ∈ ks := (keepL_mem.mp (List.mem_of_getElem? hj)).1
      have il := (List.getElem?_eq_some_iff.mp hj).1
      have s12 := s1.trans s2
      refine ⟨rfl, _, rfl, p, _, dp, _, _, rfl, s12 _ _ h1, c_Picture T, n_Picture_sizes T, pcF_sizes, _, rfl, z, .int (szS S j), rfl, by have := DGet.k (k := .inl (j : Int)) (s12 _ _ h5); rw [dK_int jm] at this; exact this, _, g2, szl (by rw [List.length_map, List.length_map, List.length_take]; omega), same_mut s2 hR, ?_⟩
      rw [upd_same, take_snoc hj, List.map_append, List.map_append]; rfl
    · rintro H2 ⟨s2, g2⟩
      rw [show (nV (keepL S ks kk)).length = (keepL S ks kk).length from List.length_map _, List.take_length] at g2
      exact ⟨R, _, rfl, SqL.of g2, k H2 (s1.trans s2)⟩
def spTotal (K : PySem.W.Frag) : Sp := fun vs H Q _ => ∃ (q : Addr) (k : Nat) (S : Sta) (ks : List Nat), vs = [.ref q, .int (k : Int)] ∧ PhoAt H q S ks ∧ PhoOk S ks ∧ k ∈ ks ∧
  ∀ H', Same H H' → Q (.int (totS S ks k)) H'
/-- a list of new pairs of numbers -/
def TotAt (H : Hp) (r : Addr) (l : List (Nat × Int)) : Prop := ∃ ts : List Addr, H r = some (.lst (ts.map V.ref)) ∧ Paired (fun t q => H t = some (.tup [.int (q.1 : Int), .int q.2])) ts l
theorem TotAt.same {H H' : Hp} (s : Same H H') {r : Addr} {l : List (Nat × Int)} (h : TotAt H r l) : TotAt H' r l := by
  obtain ⟨ts, e, p⟩ := h
  exact ⟨ts, s _ _ e, Paired.imp (fun _ _ z => s _ _ z) p⟩
noncomputable def totL (S : Sta) (ks : List Nat) : List (Nat × Int) := ks.map fun k => (k, totS S ks k)
def spTotals (K : PySem.W.Frag) : Sp := fun vs H Q _ => ∃ (q : Addr) (S : Sta) (ks : List Nat), vs = [.ref q] ∧ PhoAt H q S ks ∧ PhoOk S ks ∧
  ∀ r H', Same H H' → H r = none → TotAt H' r (totL S ks) → Q (.ref r) H'
theorem ok_totals (T : Tx w K mg) : DefOk ⟨P, w, K, mg, base⟩ 6 (ga K "totals") ["photo"] (spTotals K) := by
  refine DefOk.mk' (f_totals T) sc_totals (fun _ _ _ _ _ _ us hl => match us, hl with | [_], _ => rfl) (fun vs H Q E h => ?_) (fun cdv A outer s H vs Q E hr h => ?_)
  · obtain ⟨q, S, ks, rfl, _⟩ := h
    rfl
  · obtain ⟨q, S, ks, rfl, ph, po, k⟩ := h
    have hu := hu_of hr
    refine ⟨_, (pss_cons (ps_set (i := 1) sc_totals.nd rfl (Or.inr rfl) (pe_mg (M := ⟨P, w, K, mg, base⟩) rfl hr rfl (pa_cons (pv 0) pa_nil))) (pss_one (ps_ret (pe_lock (pe_lc (own := [("number", 2)]) (g := (gName 2)) rfl sc_totals.nd (pi_keys (pe_fld (pv 1) rfl)) (blkOk_by (own := [("number", 2)]) (N := ["photo", "picture", "number"]) (sc := defScope s_totals) (by decide +kernel)) (fun _ _ _ _ _ => (pg_name (i := 2) sc_totals.nd rfl (Or.inl rfl))) (fun _ _ _ _ _ => by exact pts_nil) (fun _ _ _ _ _ => by exact (pe_tup (pa_cons (pv 2) (pa_cons (pe_md (M := ⟨P, w, K, mg, base⟩) rfl hr (pv 1) (pa_cons (pv 2) pa_nil)) pa_nil))))))))), ?_⟩
    refine ⟨_, _, _, _, _, g_Picture T, m_Picture T, ok_Picture_init T, by decide, _, rfl, fun p dp np ndp nep => ⟨p, dp, q, S, ks, rfl, upd_same, ?_, po, fun H1 st pc => ⟨rfl, ?_⟩⟩⟩
    · exact ph.same (same_mut (same_new ndp) np)
    have sM : Same H (upd (upd H dp (.own p)) p (.ins (ga K "Picture") dp [])) := same_mut (same_new ndp) np
    have s1 : Same H H1 := fun b o e => st _ _ (sM _ _ e) (fun z => by rw [List.mem_singleton.mp z, np] at e; cases e)
    obtain ⟨dp', e, l, z, A', h1, h2, h3, h4, h5, nlz⟩ := id pc
    have lks := po.len
    have npl : p ≠ l := fun z => by rw [z, h3] at h1; cases h1
    dsimp only [gName]
    refine ⟨l, _, h3, trivial, fun od => ?_⟩
    refine ⟨_, rfl, p, _, dp', _, _, rfl, (by rw [upd_ne npl]; exact h1), c_Picture T, n_Picture_links T, pcF_links, l, od, rfl, .inl ⟨_, upd_same, fun R hR => ?_⟩⟩
    have nRl : R ≠ l := fun z => by rw [z, upd_same] at hR; cases hR
    have hR1 : H1 R = none := by rw [upd_ne nRl] at hR; exact hR
    have kpL : Kp H1 (upd H1 l (.frz od (.dK (ks.map fun (k : Nat) => ((.inl (k : Int) : Key), V.ref (A' k)))))) := ⟨tup_upd (by rw [h3]; intro xs z; cases z; rfl), fun a xs e' => by rw [upd_ne (fun z => by rw [z, h3] at e'; cases e')]; exact e'⟩
    have pg : PicG K (upd H1 l (.frz od (.dK (ks.map fun (k : Nat) => ((.inl (k : Int) : Key), V.ref (A' k)))))) p S ks :=
      ⟨dp', e, l, z, A', by rw [upd_ne npl]; exact h1, h2.keep kpL, .inr ⟨od, upd_same⟩, fun k hk => (h4 k hk).keep kpL, by rw [upd_ne nlz.symm]; exact h5, nlz⟩
    refine lc_it walk_keys (fun i H' => Same (upd H1 l (.frz od (.dK (ks.map fun (k : Nat) => ((.inl (k : Int) : Key), V.ref (A' k)))))) H' ∧ TotAt H' R ((totL S ks).take i)) ⟨same_new hR, [], upd_same, .nil⟩ (fun i H' _ h => h.1 _ _ upd_same) ?_ ?_
    · rintro i x HX H2 hi ⟨s2, ts, e8, pp⟩ ⟨rfl, kx, vx, hkv, rfl⟩
      rw [List.getElem?_map] at hkv
      obtain ⟨j, hj, ej⟩ := Option.map_eq_some_iff.mp hkv
      obtain ⟨rfl, rfl⟩ := Prod.mk.inj ej
      have jm : j ∈ ks := List.mem_of_getElem? hj
      refine ⟨rfl, ?_⟩
      refine ⟨_, rfl, _, rfl, p, _, dp', _, _, _, _, _, rfl, s2 _ _ (by rw [upd_ne npl]; exact h1), (by kernel_rfl), c_Picture T, t_Picture_total_of T, ok_Picture_total_of T, by decide, _, rfl, p, j, S, ks, rfl, pg.same s2, po, fun H3 s3 => ⟨by show 2 ≤ sizeLine; decide, fun g hg => ?_⟩⟩
      have s4 : Same H2 (upd H3 g (.tup [.int (j : Int), .int (totS S ks j)])) := s3.trans (same_new hg)
      have lt : ts.length ≤ i := by
        rw [Paired.length pp, List.length_take]; exact Nat.min_le_left _ _
      have il : i < ks.length := (List.getElem?_eq_some_iff.mp hj).1
      refine ⟨_, s4 _ _ e8, szl (by rw [List.length_map]; omega), same_mut (s2.trans s4) hR, ts ++ [g], ?_, ?_⟩
      · rw [upd_same, List.map_append]; rfl
      · unfold totL at pp ⊢
        rw [← List.map_take] at pp ⊢
        rw [take_snoc hj, List.map_append]
        have nR : ∀ {t : Addr} {xs : List V}, H2 t = some (.tup xs) → t ≠ R := fun e z => by rw [z, e8] at e; cases e
        have ngR : g ≠ R := fun z => by rw [z, s3 _ _ e8] at hg; cases hg
        refine Paired.snoc (Paired.imp (fun t q et => ?_) pp) ?_
        · rw [upd_ne (nR et)]; exact s4 _ _ et
        · rw [upd_ne ngR, upd_same]; rfl
    rintro H2 ⟨s2, t8⟩
    have nRl : R ≠ l := fun z => by rw [z, upd_same] at hR; cases hR
    have hR1 : H1 R = none := by rw [upd_ne nRl] at hR; exact hR
    refine ⟨s2 _ _ upd_same, ?_⟩
    have s3 : Same H1 (upd H2 l (.dK (ks.map fun (k : Nat) => ((.inl (k : Int) : Key), V.ref (A' k))))) := lock_same (od := od) h3 s2
    rw [List.length_map] at t8
    have kpB : Kp H2 (upd H2 l (.dK (ks.map fun (k : Nat) => ((.inl (k : Int) : Key), V.ref (A' k))))) := ⟨tup_upd (by rw [s2 _ _ upd_same]; intro xs z; cases z; rfl), fun a xs e' => by rw [upd_ne (fun z => by rw [z, s2 _ _ upd_same] at e'; cases e')]; exact e'⟩
    rw [show (totL S ks).take ks.length = totL S ks from by rw [← List.length_map (as := ks) (f := fun k => (k, totS S ks k))]; exact List.take_length] at t8
    obtain ⟨ts, e8, pp⟩ := t8
    exact k R _ (s1.trans s3) (s1.free hR1) ⟨ts, kpB.ls _ _ e8, Paired.imp (fun _ _ et => kpB.tp _ _ et) pp⟩
end
end WK
/-! What is walked inside a comprehension within another. -/
namespace WB
open PySem PySem.Spec PyProof.Rows L2 He
section
variable {X : Cx} {K : PySem.W.Frag} {tg l : Expr} {tl : TE}
theorem pi_listK (hK : X.K = K) (hl : PE X l tl) : PI X tg l (iList K tl) := by
  subst hK; exact pi_list hl
def rDictP (K : PySem.W.Frag) : List V → Hp → VK → Prop := fun xs H Q => ∃ (a : Addr) (ps : List Addr) (kvs : List (Key × V)), xs = [.ref a] ∧ SqL K H a (ps.map V.ref) ∧ Paired (fun p kv => SqT K H p [kV kv.1, kv.2]) ps kvs ∧ ∀ p, H p = none → Q (.ref p) (upd H p (.dK (mergeK [] kvs)))
theorem call_dictPK (hK : X.K = K) (hc : X.calm = true) : CallR X (.type "dict") (rDictP K) := by
  subst hK; exact call_dictP hc
end
end WB
namespace WK
open PySem PySem.Spec PyProof.Rows L2 He WB PySem.W
section
variable {P : Program} {w : World} {K : PySem.W.Frag} {mg : Str → Option Value} {base : Heap}
/-- the totals of a state, in a dict at r -/
def TotD (H : Hp) (r : Addr) (S : Sta) (ks : List Nat) : Prop := H r = some (.dK (ks.map fun (k : Nat) => ((.inl (k : Int) : Key), V.int (totS S ks k))))
theorem dK_merge {g : Nat → V} : ∀ {ks js : List Nat}, (js ++ ks).Nodup → mergeK (js.map fun (k : Nat) => ((.inl (k : Int) : Key), g k)) (ks.map fun (k : Nat) => ((.inl (k : Int) : Key), g k)) = (js ++ ks).map fun (k : Nat) => ((.inl (k : Int) : Key), g k)
  | [], js, _ => by rw [List.append_nil]; rfl
  | x :: r, js, nd => by
    have h1 : x ∉ js := fun z => by
      rw [List.nodup_append] at nd
      exact nd.2.2 _ z _ (List.mem_cons_self) rfl
    show mergeK (putK (js.map fun (k : Nat) => ((.inl (k : Int) : Key), g k)) (.inl (x : Int)) (g x)) (r.map fun (k : Nat) => ((.inl (k : Int) : Key), g k)) = _
    rw [dK_put h1]
    have e : ((js ++ [x]).map fun (j : Nat) => ((.inl (j : Int) : Key), if j = x then g x else g j)) = (js ++ [x]).map fun (k : Nat) => ((.inl (k : Int) : Key), g k) := List.map_congr_left fun j _ => by
      by_cases z : j = x
      · rw [if_pos z, z]
      · rw [if_neg z]
    rw [e, dK_merge (by rw [List.append_assoc]; exact nd), List.append_assoc]
    rfl
theorem dK_merge0 {g : Nat → V} {ks : List Nat} (srt : ks.Pairwise (· < ·)) : mergeK [] (ks.map fun (k : Nat) => ((.inl (k : Int) : Key), g k)) = ks.map fun (k : Nat) => ((.inl (k : Int) : Key), g k) :=
  dK_merge (js := []) (by rw [List.nil_append]; exact srt.imp fun h => Nat.ne_of_lt h)
/-- pairs of a number and what g says of it -/
def ParD (H : Hp) (r : Addr) (g : Nat → Int) (ks : List Nat) : Prop := ∃ ts : List Addr, H r = some (.lst (ts.map V.ref)) ∧ Paired (fun t (k : Nat) => H t = some (.tup [.int (k : Int), .int (g k)])) ts ks
theorem ParD.sq {H : Hp} {g : Nat → Int} : ∀ {ts : List Addr} {ks : List Nat}, Paired (fun t (k : Nat) => H t = some (.tup [.int (k : Int), .int (g k)])) ts ks → Paired (fun p (kv : Key × V) => SqT K H p [kV kv.1, kv.2]) ts (ks.map fun (k : Nat) => ((.inl (k : Int) : Key), V.int (g k)))
  | _, _, .nil => .nil
  | _, _, .cons r t => .cons (SqT.of r) (ParD.sq t)
theorem ParD.put {H H' : Hp} {R g' : Addr} {g : Nat → Int} {ks : List Nat} {i j : Nat} (s : Same H H') (h : ParD H R g (ks.take i)) (hj : ks[i]? = some j) (hg : H' g' = none) : ∃ acc, H' R = some (.lst acc) ∧ acc.length ≤ i ∧ ParD (upd (upd H' g' (.tup [.int (j : Int), .int (g j)])) R (.lst (acc ++ [.ref g']))) R g (ks.take (i + 1)) := by
  obtain ⟨ts, e8, pp⟩ := h
  have e9 := s _ _ e8
  refine ⟨_, e9, by rw [List.length_map, Paired.length pp, List.length_take]; exact Nat.min_le_left _ _, ts ++ [g'], by rw [upd_same, List.map_append]; rfl, ?_⟩
  rw [take_snoc hj]
  have ng : g' ≠ R := fun z => by rw [z, e9] at hg; cases hg
  refine Paired.snoc (Paired.imp (fun t q et => ?_) pp) (by rw [upd_ne ng, upd_same])
  have ht := s _ _ et
  rw [upd_ne (fun z => by rw [z, e9] at ht; cases ht), upd_ne (fun z => by rw [z, hg] at ht; cases ht)]
  exact ht
/-- the rows of a photo, from what is represented -/
theorem rows_of {H : Hp} {p : Addr} {S : Sta} {ks : List Nat} (h : RepN H 7 (.ref p) (photoT S ks)) : ∃ (x : V) (lt : Addr) (ts : List Addr), H p = some (.tup [x, .ref lt]) ∧ H lt = some (.lst (ts.map V.ref)) ∧ Paired (fun t (k : Nat) => ∃ y z, H t = some (.tup [.int (k : Int), y, z, .int (szS S k)])) ts ks := by
  obtain ⟨a, vs, e, ha, _, pr⟩ := h
  cases e
  cases pr with
  | cons _ pr =>
    cases pr with
    | cons q pr =>
      cases pr
      obtain ⟨lt, ws, e, hl, _, pw⟩ := q
      subst e
      have key : ∀ {ws : List V} {ks : List Nat}, Paired (RepN H 5) ws (ks.map fun k => snapT k (S.th k)) → ∃ ts : List Addr, ws = ts.map V.ref ∧ Paired (fun t (k : Nat) => ∃ y z, H t = some (.tup [.int (k : Int), y, z, .int (szS S k)])) ts ks := by
        intro ws ks
        induction ks generalizing ws with
        | nil => intro h; cases h; exact ⟨[], rfl, .nil⟩
        | cons k r ih =>
          intro h
          cases h with
          | cons r1 t1 =>
            obtain ⟨ts, rfl, pt⟩ := ih t1
            obtain ⟨t, us, e, ht, _, pu⟩ := r1
            subst e
            cases pu with
            | cons u1 pu =>
              cases pu with
              | cons u2 pu =>
                cases pu with
                | cons u3 pu =>
                  cases pu with
                  | cons u4 pu =>
                    cases pu
                    cases u1
                    cases u4
                    exact ⟨t :: ts, rfl, .cons ⟨_, _, ht⟩ pt⟩
      obtain ⟨ts, rfl, pt⟩ := key pw
      exact ⟨_, lt, ts, ha, hl, pt⟩
def spLTot : Sp := fun vs H Q _ => ∃ (m : Addr) (S : Sta) (O : List Addr) (n l : Addr) (A C : Nat → Addr), vs = [.ref m] ∧ LawX H m S O n l A C ∧ WB.Ok S ∧ S.made ≤ 790 ∧
  ∀ r H' ks, StpP H H' → LawX H' m S O n l A C → H r = none → ks.Pairwise (· < ·) → (∀ k, k ∈ ks ↔ ReachA S k) → ks.length ≤ 790 → TotD H' r S ks → Q (.ref r) H'
end
end WK
namespace WK
open PySem PySem.Spec PyProof.Rows L2 He WB PySem.W
section
variable {P : Program} {w : World} {K : PySem.W.Frag} {mg : Str → Option Value} {base : Heap}
theorem Paired.unmapR {α β γ : Type} {R : α → γ → Prop} (f : β → γ) : ∀ {ys : List β} {xs : List α}, Paired R xs (ys.map f) → Paired (fun a b => R a (f b)) xs ys
  | [], _, h => by cases h; exact .nil
  | _ :: _, _, h => by
    cases h with
    | cons r t => exact .cons r (Paired.unmapR f t)
theorem TotAt.par {H : Hp} {r : Addr} {S : Sta} {ks : List Nat} (h : TotAt H r (totL S ks)) : ParD H r (totS S ks) ks := by
  obtain ⟨ts, e, p⟩ := h
  exact ⟨ts, e, Paired.unmapR (R := fun t (q : Nat × Int) => H t = some (.tup [.int (q.1 : Int), .int q.2])) (fun k => (k, totS S ks k)) p⟩
theorem dK_some {ks : List Nat} {g : Nat → V} {k : Nat} : (valV (ks.map fun (k : Nat) => ((.inl (k : Int) : Key), g k)) (.inl (k : Int))).isSome = decide (k ∈ ks) := by
  induction ks with
  | nil => rfl
  | cons j r ih =>
    by_cases e : j = k
    · subst e; rw [List.map_cons, valV_pos rfl, decide_eq_true List.mem_cons_self]; rfl
    · have ne : ¬ ((.inl (j : Int) : Key) = .inl (k : Int)) := fun z => e (Int.ofNat.inj (Sum.inl.inj z))
      rw [List.map_cons, valV_neg (p := ((.inl (j : Int) : Key), g j)) ne, ih]
      exact decide_eq_decide.mpr ⟨fun z => List.mem_cons_of_mem _ z, fun z => (List.mem_cons.mp z).elim (fun y => absurd y.symm e) id⟩
theorem filt_yes {p : Nat → Bool} {ks : List Nat} {i j : Nat} (h : ks[i]? = some j) (z : p j = true) : (ks.take (i + 1)).filter p = (ks.take i).filter p ++ [j] := by
  rw [take_snoc h, List.filter_append]
  congr 1
  rw [List.filter_cons, if_pos z]; rfl
theorem filt_no {p : Nat → Bool} {ks : List Nat} {i j : Nat} (h : ks[i]? = some j) (z : p j = false) : (ks.take (i + 1)).filter p = (ks.take i).filter p := by
  rw [take_snoc h, List.filter_append, List.filter_cons, if_neg (by rw [z]; exact Bool.false_ne_true), List.filter_nil, List.append_nil]
theorem ParD.add {H' : Hp} {R g' : Addr} {g : Nat → Int} {ks : List Nat} {j : Nat} (h : ParD H' R g ks) (hg : H' g' = none) : ∃ acc, H' R = some (.lst acc) ∧ acc.length = ks.length ∧ ParD (upd (upd H' g' (.tup [.int (j : Int), .int (g j)])) R (.lst (acc ++ [.ref g']))) R g (ks ++ [j]) := by
  obtain ⟨ts, e9, pp⟩ := h
  refine ⟨_, e9, by rw [List.length_map, Paired.length pp], ts ++ [g'], by rw [upd_same, List.map_append]; rfl, ?_⟩
  have ng : g' ≠ R := fun z => by rw [z, e9] at hg; cases hg
  refine Paired.snoc (Paired.imp (fun t q ht => ?_) pp) (by rw [upd_ne ng, upd_same])
  rw [upd_ne (fun z => by rw [z, e9] at ht; cases ht), upd_ne (fun z => by rw [z, hg] at ht; cases ht)]
  exact ht
theorem ParD.same {H H' : Hp} (s : Same H H') {r : Addr} {g : Nat → Int} {l : List Nat} (h : ParD H r g l) : ParD H' r g l := by
  obtain ⟨ts, e, p⟩ := h
  exact ⟨ts, s _ _ e, Paired.imp (fun _ _ z => s _ _ z) p⟩
def newL (k1 k2 : List Nat) : List Nat := k2.filter fun k => !(decide (k ∈ k1))
noncomputable def grwL (S1 : Sta) (k1 : List Nat) (S2 : Sta) (k2 : List Nat) : List Nat := (k2.filter fun k => decide (k ∈ k1)).filter fun k => decide (totS S1 k1 k < totS S2 k2 k)
noncomputable def cmpT (S1 : Sta) (k1 : List Nat) (S2 : Sta) (k2 : List Nat) : Tr := .tup [.lst ((newL k1 k2).map fun (k : Nat) => Tr.int (k : Int)), .lst ((newL k2 k1).map fun (k : Nat) => Tr.int (k : Int)), .lst ((grwL S1 k1 S2 k2).map fun (k : Nat) => Tr.tup [.int (k : Int), .int (totS S2 k2 k - totS S1 k1 k)])]
/-- what is told of two photos: three new lists -/
def CmpAt (H0 H : Hp) (r : Addr) (S1 : Sta) (k1 : List Nat) (S2 : Sta) (k2 : List Nat) : Prop := ∃ a b c : Addr, H r = some (.tup [.ref a, .ref b, .ref c]) ∧ H a = some (.lst (nV (newL k1 k2))) ∧ H b = some (.lst (nV (newL k2 k1))) ∧ ParD H c (fun k => totS S2 k2 k - totS S1 k1 k) (grwL S1 k1 S2 k2) ∧ H0 a = none ∧ H0 b = none ∧ H0 c = none ∧ a ≠ b ∧ a ≠ c ∧ b ≠ c
def spCmp (K : PySem.W.Frag) : Sp := fun vs H Q _ => ∃ (p q : Addr) (S1 : Sta) (k1 : List Nat) (S2 : Sta) (k2 : List Nat), vs = [.ref p, .ref q] ∧ PhoAt H p S1 k1 ∧ PhoOk S1 k1 ∧ PhoAt H q S2 k2 ∧ PhoOk S2 k2 ∧
  ∀ r H', Same H H' → CmpAt H H' r S1 k1 S2 k2 → Q (.ref r) H'
theorem ok_compared (T : Tx w K mg) : DefOk ⟨P, w, K, mg, base⟩ 8 (ga K "compared") ["before", "after"] (spCmp K) := by
  refine DefOk.mk' (f_compared T) sc_compared (fun _ _ _ _ _ _ us hl => match us, hl with | [_, _], _ => rfl) (fun vs H Q E h => ?_) (fun cdv A outer s H vs Q E hr h => ?_)
  · obtain ⟨p, q, S1, k1, S2, k2, rfl, _⟩ := h
    rfl
  · obtain ⟨p, q, S1, k1, S2, k2, rfl, ph1, po1, ph2, po2, k⟩ := h
    have hu := hu_of hr
    refine ⟨_, (pss_cons (ps_set (i := 2) sc_compared.nd rfl (Or.inr rfl) (pe_callTy (call_dictP rfl) (by rfl) (z_dict T) (by decide +kernel) (pa_cons (pe_cg (M := ⟨P, w, K, mg, base⟩) rfl hr rfl (pa_cons (pv 0) pa_nil)) pa_nil))) (pss_cons (ps_set (i := 3) sc_compared.nd rfl (Or.inr rfl) (pe_callTy (call_dictP rfl) (by rfl) (z_dict T) (by decide +kernel) (pa_cons (pe_cg (M := ⟨P, w, K, mg, base⟩) rfl hr rfl (pa_cons (pv 1) pa_nil)) pa_nil))) (pss_cons (ps_lock (ps_setLc (i := 5) (own := [("number", 4)]) (g := (gName 4)) rfl sc_compared.nd rfl rfl (sw_true rfl rfl rfl (by decide +kernel)) (pi_keys (pv 3)) (blkOk_by (own := [("number", 4)]) (N := ["before", "after", "earlier", "later", "number", "new", "gone", "both", "grown"]) (sc := defScope s_compared) (by decide +kernel)) (fun _ _ _ _ _ => (pg_name (i := 4) sc_compared.nd rfl (Or.inl rfl))) (fun _ _ _ _ _ => by exact (pts_one (pt_cmp (pc_dnotin hu (pv 4) (pv 2))))) (fun _ _ _ _ _ => by exact (pv 4)))) (pss_cons (ps_lock (ps_setLc (i := 6) (own := [("number", 4)]) (g := (gName 4)) rfl sc_compared.nd rfl rfl (sw_true rfl rfl rfl (by decide +kernel)) (pi_keys (pv 2)) (blkOk_by (own := [("number", 4)]) (N := ["before", "after", "earlier", "later", "number", "new", "gone", "both", "grown"]) (sc := defScope s_compared) (by decide +kernel)) (fun _ _ _ _ _ => (pg_name (i := 4) sc_compared.nd rfl (Or.inl rfl))) (fun _ _ _ _ _ => by exact (pts_one (pt_cmp (pc_dnotin hu (pv 4) (pv 3))))) (fun _ _ _ _ _ => by exact (pv 4)))) (pss_cons (ps_lock (ps_setLc (i := 7) (own := [("number", 4)]) (g := (gName 4)) rfl sc_compared.nd rfl rfl (sw_true rfl rfl rfl (by decide +kernel)) (pi_keys (pv 3)) (blkOk_by (own := [("number", 4)]) (N := ["before", "after", "earlier", "later", "number", "new", "gone", "both", "grown"]) (sc := defScope s_compared) (by decide +kernel)) (fun _ _ _ _ _ => (pg_name (i := 4) sc_compared.nd rfl (Or.inl rfl))) (fun _ _ _ _ _ => by exact (pts_one (pt_cmp (pc_din hu (pv 4) (pv 2))))) (fun _ _ _ _ _ => by exact (pv 4)))) (pss_cons (ps_setLc (i := 8) (own := [("number", 4)]) (g := (gName 4)) rfl sc_compared.nd rfl rfl (sw_true rfl rfl rfl (by decide +kernel)) (pi_list (pv 7)) (blkOk_by (own := [("number", 4)]) (N := ["before", "after", "earlier", "later", "number", "new", "gone", "both", "grown"]) (sc := defScope s_compared) (by decide +kernel)) (fun _ _ _ _ _ => (pg_name (i := 4) sc_compared.nd rfl (Or.inl rfl))) (fun _ _ _ _ _ => by exact (pts_one (pt_cmpR op_gt (pe_dget hu (pv 3) (pv 4) (fun _ _ => rfl)) (pe_dget hu (pv 2) (pv 4) (fun _ _ => rfl)) (nomark _)))) (fun _ _ _ _ _ => by exact (pe_tup (pa_cons (pv 4) (pa_cons (pe_op op_sub (pe_dget hu (pv 3) (pv 4) (fun _ _ => rfl)) (pe_dget hu (pv 2) (pv 4) (fun _ _ => rfl))) pa_nil))))) (pss_one (ps_ret (pe_tup (pa_cons (pv 5) (pa_cons (pv 6) (pa_cons (pv 8) pa_nil)))))))))))), ?_⟩
    have l1 := po1.len
    have l2 := po2.len
    refine ⟨_, _, _, _, g_totals T, ok_totals T, by decide, _, rfl, p, S1, k1, rfl, ph1, po1, fun r1 H1 s1 nr1 t1 => ?_⟩
    obtain ⟨ts1, e1, p1⟩ := t1.par
    refine ⟨r1, ts1, _, rfl, SqL.of e1, ParD.sq p1, fun E hE => ?_⟩
    rw [dK_merge0 (g := fun k => V.int (totS S1 k1 k)) po1.srt]
    have s2 := s1.trans (same_new (o := (.dK (k1.map fun (k : Nat) => ((.inl (k : Int) : Key), V.int (totS S1 k1 k))))) hE)
    have gE : upd H1 E (.dK (k1.map fun (k : Nat) => ((.inl (k : Int) : Key), V.int (totS S1 k1 k)))) E = some (.dK (k1.map fun (k : Nat) => ((.inl (k : Int) : Key), V.int (totS S1 k1 k)))) := upd_same
    generalize upd H1 E (.dK (k1.map fun (k : Nat) => ((.inl (k : Int) : Key), V.int (totS S1 k1 k)))) = H2 at s2 gE ⊢
    clear hE e1 p1 t1 s1
    dsimp only [gName]
    refine ⟨_, _, _, _, g_totals T, ok_totals T, by decide, _, rfl, q, S2, k2, rfl, ph2.same s2, po2, fun r2 H3 s3 nr2 t2 => ?_⟩
    obtain ⟨ts2, e2, p2⟩ := t2.par
    refine ⟨r2, ts2, _, rfl, SqL.of e2, ParD.sq p2, fun L hL => ?_⟩
    rw [dK_merge0 (g := fun k => V.int (totS S2 k2 k)) po2.srt]
    have nEL : E ≠ L := fun z => by rw [← z, s3 _ _ gE] at hL; cases hL
    have s4 := s2.trans (s3.trans (same_new (o := (.dK (k2.map fun (k : Nat) => ((.inl (k : Int) : Key), V.int (totS S2 k2 k))))) hL))
    have gE4 := (s3.trans (same_new (o := (.dK (k2.map fun (k : Nat) => ((.inl (k : Int) : Key), V.int (totS S2 k2 k))))) hL)) _ _ gE
    have gL : upd H3 L (.dK (k2.map fun (k : Nat) => ((.inl (k : Int) : Key), V.int (totS S2 k2 k)))) L = some (.dK (k2.map fun (k : Nat) => ((.inl (k : Int) : Key), V.int (totS S2 k2 k)))) := upd_same
    generalize upd H3 L (.dK (k2.map fun (k : Nat) => ((.inl (k : Int) : Key), V.int (totS S2 k2 k)))) = H4 at s4 gE4 gL ⊢
    clear hL e2 p2 t2 s3 s2 gE
    dsimp only [gName]
    refine ⟨L, _, gL, trivial, fun od => ⟨_, rfl, L, od, rfl, .inl ⟨_, upd_same, fun A hA => ?_⟩⟩⟩
    have nA : A ≠ L := fun z => by rw [z, upd_same] at hA; cases hA
    have A0 : H4 A = none := by rw [upd_ne nA] at hA; exact hA
    refine lc_it walk_keys (fun i H' => Same (upd H4 L (.frz od (.dK (k2.map fun (k : Nat) => ((.inl (k : Int) : Key), V.int (totS S2 k2 k)))))) H' ∧ H' A = some (.lst (nV ((k2.take i).filter fun j => !(decide (j ∈ k1)))))) ⟨same_new hA, upd_same⟩ (fun i H' _ h => h.1 _ _ upd_same) ?_ ?_
    · rintro i x HX H5 hi ⟨s5, g5⟩ ⟨rfl, kx, vx, hkv, rfl⟩
      rw [List.getElem?_map] at hkv
      obtain ⟨j, hj, ej⟩ := Option.map_eq_some_iff.mp hkv
      obtain ⟨rfl, rfl⟩ := Prod.mk.inj ej
      have il : i < k2.length := (List.getElem?_eq_some_iff.mp hj).1
      have gE5 := s5 _ _ (by rw [upd_ne nEL]; exact gE4)
      refine ⟨rfl, _, rfl, _, rfl, E, _, rfl, DGet.k (k := .inl (j : Int)) gE5, _, rfl, ?_⟩
      show if (!(valV (k1.map fun (k : Nat) => ((.inl (k : Int) : Key), V.int (totS S1 k1 k))) (.inl (j : Int))).isSome) = true then _ else _
      rw [dK_some]
      cases z : (!(decide (j ∈ k1)) : Bool) with
      | false =>
        have nx := filt_no (p := fun j => !(decide (j ∈ k1))) hj z
        exact if_f rfl ⟨s5, by rw [nx]; exact g5⟩
      | true =>
        have nx := filt_yes (p := fun j => !(decide (j ∈ k1))) hj z
        refine if_t rfl ⟨_, rfl, _, g5, szl ?_, same_mut s5 hA, ?_⟩
        · unfold nV
          rw [List.length_map]
          exact Nat.le_trans (List.length_filter_le _ _) (by rw [List.length_take]; omega)
        · rw [upd_same, nx]; unfold nV; rw [List.map_append]; rfl
    rintro H5 ⟨s5, g5⟩
    refine ⟨s5 _ _ upd_same, ?_⟩
    rw [List.length_map, List.take_length] at g5
    have sA : Same H4 (upd H5 L (.dK (k2.map fun (k : Nat) => ((.inl (k : Int) : Key), V.int (totS S2 k2 k))))) := lock_same (od := od) gL s5
    have gA : (upd H5 L (.dK (k2.map fun (k : Nat) => ((.inl (k : Int) : Key), V.int (totS S2 k2 k))))) A = some (.lst (nV (k2.filter fun j => !(decide (j ∈ k1))))) := by rw [upd_ne nA]; exact g5
    generalize upd H5 L (.dK (k2.map fun (k : Nat) => ((.inl (k : Int) : Key), V.int (totS S2 k2 k)))) = GA at sA gA ⊢
    clear s5 g5 hA nA
    have gE5 := sA _ _ gE4
    have gL5 := sA _ _ gL
    dsimp only [gName]
    refine ⟨E, _, gE5, trivial, fun od => ⟨_, rfl, E, od, rfl, .inl ⟨_, upd_same, fun B hB => ?_⟩⟩⟩
    have nB : B ≠ E := fun z => by rw [z, upd_same] at hB; cases hB
    have B0 : GA B = none := by rw [upd_ne nB] at hB; exact hB
    refine lc_it walk_keys (fun i H' => Same (upd GA E (.frz od (.dK (k1.map fun (k : Nat) => ((.inl (k : Int) : Key), V.int (totS S1 k1 k)))))) H' ∧ H' B = some (.lst (nV ((k1.take i).filter fun j => !(decide (j ∈ k2)))))) ⟨same_new hB, upd_same⟩ (fun i H' _ h => h.1 _ _ upd_same) ?_ ?_
    · rintro i x HX H5 hi ⟨s5, g5⟩ ⟨rfl, kx, vx, hkv, rfl⟩
      rw [List.getElem?_map] at hkv
      obtain ⟨j, hj, ej⟩ := Option.map_eq_some_iff.mp hkv
      obtain ⟨rfl, rfl⟩ := Prod.mk.inj ej
      have il : i < k1.length := (List.getElem?_eq_some_iff.mp hj).1
      have gE9 := s5 _ _ (by rw [upd_ne nEL.symm]; exact gL5)
      refine ⟨rfl, _, rfl, _, rfl, L, _, rfl, DGet.k (k := .inl (j : Int)) gE9, _, rfl, ?_⟩
      show if (!(valV (k2.map fun (k : Nat) => ((.inl (k : Int) : Key), V.int (totS S2 k2 k))) (.inl (j : Int))).isSome) = true then _ else _
      rw [dK_some]
      cases z : (!(decide (j ∈ k2)) : Bool) with
      | false =>
        have nx := filt_no (p := fun j => !(decide (j ∈ k2))) hj z
        exact if_f rfl ⟨s5, by rw [nx]; exact g5⟩
      | true =>
        have nx := filt_yes (p := fun j => !(decide (j ∈ k2))) hj z
        refine if_t rfl ⟨_, rfl, _, g5, szl ?_, same_mut s5 hB, ?_⟩
        · unfold nV
          rw [List.length_map]
          exact Nat.le_trans (List.length_filter_le _ _) (by rw [List.length_take]; omega)
        · rw [upd_same, nx]; unfold nV; rw [List.map_append]; rfl
    rintro H5 ⟨s5, g5⟩
    refine ⟨s5 _ _ upd_same, ?_⟩
    rw [List.length_map, List.take_length] at g5
    have sB : Same GA (upd H5 E (.dK (k1.map fun (k : Nat) => ((.inl (k : Int) : Key), V.int (totS S1 k1 k))))) := lock_same (od := od) gE5 s5
    have gB : (upd H5 E (.dK (k1.map fun (k : Nat) => ((.inl (k : Int) : Key), V.int (totS S1 k1 k))))) B = some (.lst (nV (k1.filter fun j => !(decide (j ∈ k2))))) := by rw [upd_ne nB]; exact g5
    generalize upd H5 E (.dK (k1.map fun (k : Nat) => ((.inl (k : Int) : Key), V.int (totS S1 k1 k)))) = GB at sB gB ⊢
    clear s5 g5 hB nB
    have gE6 := sB _ _ gE5
    have gL6 := sB _ _ gL5
    dsimp only [gName]
    refine ⟨L, _, gL6, trivial, fun od => ⟨_, rfl, L, od, rfl, .inl ⟨_, upd_same, fun C hC => ?_⟩⟩⟩
    have nC : C ≠ L := fun z => by rw [z, upd_same] at hC; cases hC
    have C0 : GB C = none := by rw [upd_ne nC] at hC; exact hC
    refine lc_it walk_keys (fun i H' => Same (upd GB L (.frz od (.dK (k2.map fun (k : Nat) => ((.inl (k : Int) : Key), V.int (totS S2 k2 k)))))) H' ∧ H' C = some (.lst (nV ((k2.take i).filter fun j => decide (j ∈ k1))))) ⟨same_new hC, upd_same⟩ (fun i H' _ h => h.1 _ _ upd_same) ?_ ?_
    · rintro i x HX H5 hi ⟨s5, g5⟩ ⟨rfl, kx, vx, hkv, rfl⟩
      rw [List.getElem?_map] at hkv
      obtain ⟨j, hj, ej⟩ := Option.map_eq_some_iff.mp hkv
      obtain ⟨rfl, rfl⟩ := Prod.mk.inj ej
      have il : i < k2.length := (List.getElem?_eq_some_iff.mp hj).1
      have gE5 := s5 _ _ (by rw [upd_ne nEL]; exact gE6)
      refine ⟨rfl, _, rfl, _, rfl, E, _, rfl, DGet.k (k := .inl (j : Int)) gE5, _, rfl, ?_⟩
      show if (valV (k1.map fun (k : Nat) => ((.inl (k : Int) : Key), V.int (totS S1 k1 k))) (.inl (j : Int))).isSome = true then _ else _
      rw [dK_some]
      cases z : (decide (j ∈ k1) : Bool) with
      | false =>
        have nx := filt_no (p := fun j => decide (j ∈ k1)) hj z
        exact if_f rfl ⟨s5, by rw [nx]; exact g5⟩
      | true =>
        have nx := filt_yes (p := fun j => decide (j ∈ k1)) hj z
        refine if_t rfl ⟨_, rfl, _, g5, szl ?_, same_mut s5 hC, ?_⟩
        · unfold nV
          rw [List.length_map]
          exact Nat.le_trans (List.length_filter_le _ _) (by rw [List.length_take]; omega)
        · rw [upd_same, nx]; unfold nV; rw [List.map_append]; rfl
    rintro H5 ⟨s5, g5⟩
    refine ⟨s5 _ _ upd_same, ?_⟩
    rw [List.length_map, List.take_length] at g5
    have sC : Same GB (upd H5 L (.dK (k2.map fun (k : Nat) => ((.inl (k : Int) : Key), V.int (totS S2 k2 k))))) := lock_same (od := od) gL6 s5
    have gC : (upd H5 L (.dK (k2.map fun (k : Nat) => ((.inl (k : Int) : Key), V.int (totS S2 k2 k))))) C = some (.lst (nV (k2.filter fun j => decide (j ∈ k1)))) := by rw [upd_ne nC]; exact g5
    generalize upd H5 L (.dK (k2.map fun (k : Nat) => ((.inl (k : Int) : Key), V.int (totS S2 k2 k)))) = GC at sC gC ⊢
    clear s5 g5 hC nC
    have gE7 := sC _ _ gE6
    have gL7 := sC _ _ gL6
    dsimp only [gName]
    refine ⟨_, rfl, C, rfl, ⟨_, SqL.of gC⟩, fun D hD => ?_⟩
    refine lc_list (K := K) (a := C) (xs := nV (k2.filter fun j => decide (j ∈ k1))) (fun i H' => Same GC H' ∧ ParD H' D (fun k => totS S2 k2 k - totS S1 k1 k) (((k2.filter fun j => decide (j ∈ k1)).take i).filter fun k => decide (totS S1 k1 k < totS S2 k2 k))) ⟨same_new hD, [], upd_same, .nil⟩ (fun i H' _ h => SqL.of (h.1 _ _ gC)) ?_ ?_
    · rintro i x H5 hi ⟨s5, pd⟩
      unfold nV at hi
      rw [List.getElem?_map] at hi
      obtain ⟨j, hj, rfl⟩ := Option.map_eq_some_iff.mp hi
      have jm := List.mem_filter.mp (List.mem_of_getElem? hj)
      have j2 : j ∈ k2 := jm.1
      have j1 : j ∈ k1 := of_decide_eq_true jm.2
      have il := (List.getElem?_eq_some_iff.mp hj).1
      have le2 := List.length_filter_le (fun j => decide (j ∈ k1)) k2
      have dL : DGet H5 L (.int (j : Int)) (some (.int (totS S2 k2 j))) := by have := DGet.k (k := .inl (j : Int)) (s5 _ _ gL7); rw [dK_int j2] at this; exact this
      have dE : DGet H5 E (.int (j : Int)) (some (.int (totS S1 k1 j))) := by have := DGet.k (k := .inl (j : Int)) (s5 _ _ gE7); rw [dK_int j1] at this; exact this
      refine ⟨rfl, ?_⟩
      refine ⟨_, rfl, _, rfl, L, _, rfl, dL, _, rfl, _, rfl, E, _, rfl, dE, _, _, rfl, rfl, _, rfl, ?_⟩
      cases z : decide (totS S1 k1 j < totS S2 k2 j) with
      | false =>
        have nx := filt_no (p := fun k => decide (totS S1 k1 k < totS S2 k2 k)) hj z
        exact if_f rfl ⟨s5, by rw [nx]; exact pd⟩
      | true =>
        have nx := filt_yes (p := fun k => decide (totS S1 k1 k < totS S2 k2 k)) hj z
        refine if_t rfl ⟨_, rfl, _, rfl, _, rfl, L, _, rfl, dL, _, rfl, _, rfl, E, _, rfl, dE, _, _, rfl, rfl, by show 2 ≤ sizeLine; decide, fun g hg => ?_⟩
        obtain ⟨acc, ea, la, pa⟩ := pd.add (j := j) hg
        refine ⟨acc, (by rw [upd_ne (fun z => by rw [← z, ea] at hg; cases hg)]; exact ea), szl ?_, same_mut (s5.trans (same_new hg)) hD, by rw [nx]; exact pa⟩
        have h1 := List.length_filter_le (fun k => decide (totS S1 k1 k < totS S2 k2 k)) ((k2.filter fun j => decide (j ∈ k1)).take i)
        rw [List.length_take] at h1
        omega
    rintro H5 ⟨s5, pd⟩
    rw [show (nV (k2.filter fun j => decide (j ∈ k1))).length = (k2.filter fun j => decide (j ∈ k1)).length from List.length_map _, List.take_length] at pd
    refine ⟨_, rfl, _, rfl, _, rfl, by show 3 ≤ sizeLine; decide, fun g hg => ?_⟩
    have s6 := s5.trans (same_new (o := .tup [.ref A, .ref B, .ref D]) hg)
    have nDg : D ≠ g := fun z => by
      obtain ⟨_, e, _⟩ := pd
      rw [z, hg] at e; cases e
    have nAB : A ≠ B := ne_of_none gA B0
    have nAD : A ≠ D := ne_of_none (sC _ _ (sB _ _ gA)) hD
    have nBD : B ≠ D := ne_of_none (sC _ _ gB) hD
    exact k g _ (s4.trans (sA.trans (sB.trans (sC.trans s6)))) ⟨A, B, D, upd_same, s6 _ _ (sC _ _ (sB _ _ gA)), s6 _ _ (sC _ _ gB), pd.same (same_new hg), s4.free A0, s4.free (sA.free B0), s4.free (sA.free (sB.free (sC.free hD))), nAB, nAD, nBD⟩
end
end WK
namespace WK
open PySem PySem.Spec PyProof.Rows L2 He WB PySem.W
section
variable {P : Program} {w : World} {K : PySem.W.Frag} {mg : Str → Option Value} {base : Heap}
/-- a table of totals, walked or not -/
def TabG (H : Hp) (t : Addr) (S : Sta) (ks : List Nat) : Prop := LinkAt H t (ks.map fun (k : Nat) => ((.inl (k : Int) : Key), V.int (totS S ks k)))
theorem TabG.same {H H' : Hp} (s : Same H H') {t : Addr} {S : Sta} {ks : List Nat} (h : TabG H t S ks) : TabG H' t S ks := LinkAt.same s h
abbrev Snap := Sta × List Nat
def memB (sn : List Snap) (k : Nat) : List Bool := sn.map fun s => decide (k ∈ s.2)
noncomputable def sumL (sn : List Snap) (k : Nat) : List Int := sn.map fun s => totS s.1 s.2 k
def incB (l : List Int) : List Bool := (l.zip (l.drop 1)).map fun p => decide (p.1 < p.2)
noncomputable def growB (sn : List Snap) (k : Nat) : Bool := (memB sn k).all id && (incB (sumL sn k)).all id
theorem cut1 (xs : List V) : cutV xs (some 1) none = xs.drop 1 := by
  cases xs with
  | nil => rfl
  | cons x r =>
    show ((x :: r).drop (min 1 (r.length + 1))).take (r.length + 1 - min 1 (r.length + 1)) = r
    rw [Nat.min_eq_left (by omega)]
    show r.take (r.length + 1 - 1) = r
    rw [Nat.add_sub_cancel, List.take_length]
def spGrows (K : PySem.W.Frag) : Sp := fun vs H Q _ => ∃ (a : Addr) (k : Nat) (ts : List Addr) (sn : List Snap), vs = [.int (k : Int), .ref a] ∧ H a = some (.lst (ts.map V.ref)) ∧ Paired (fun t s => TabG H t s.1 s.2) ts sn ∧ sn.length ≤ 8 ∧
  ∀ H', Same H H' → Q (.bl (growB sn k)) H'
theorem ok_grows (T : Tx w K mg) : DefOk ⟨P, w, K, mg, base⟩ 1 (ga K "grows") ["number", "tables"] (spGrows K) := by
  refine DefOk.mk' (f_grows T) sc_grows (fun _ _ _ _ _ _ us hl => match us, hl with | [_, _], _ => rfl) (fun vs H Q E h => ?_) (fun cdv A outer s H vs Q E hr h => ?_)
  · obtain ⟨a, k, ts, sn, rfl, _⟩ := h
    rfl
  · obtain ⟨a, kk, ts, sn, rfl, ha, pt, l8, k⟩ := h
    have hu := hu_of hr
    refine ⟨_, (pss_cons (ps_if (pt_not (pt_val (pe_callB (cr_all rfl) (by rfl) (z_all T) (by decide +kernel) (pa_cons (pe_lc (own := [("table", 2)]) (g := (gName 2)) rfl sc_grows.nd (pi_list (pv 1)) (blkOk_by (own := [("table", 2)]) (N := ["number", "tables", "table", "sums", "less", "more"]) (sc := defScope s_grows) (by decide +kernel)) (fun _ _ _ _ _ => (pg_name (i := 2) sc_grows.nd rfl (Or.inl rfl))) (fun _ _ _ _ _ => by exact pts_nil) (fun _ _ _ _ _ => by exact (pe_cmp (pc_din hu (pv 0) (pv 2)) rfl))) pa_nil)))) (pss_one (ps_ret pe_bl)) pss_nil) (pss_cons (ps_setLc (i := 3) (own := [("table", 2)]) (g := (gName 2)) rfl sc_grows.nd rfl rfl (sw_true rfl rfl rfl (by decide +kernel)) (pi_list (pv 1)) (blkOk_by (own := [("table", 2)]) (N := ["number", "tables", "table", "sums", "less", "more"]) (sc := defScope s_grows) (by decide +kernel)) (fun _ _ _ _ _ => (pg_name (i := 2) sc_grows.nd rfl (Or.inl rfl))) (fun _ _ _ _ _ => by exact pts_nil) (fun _ _ _ _ _ => by exact (pe_dget hu (pv 2) (pv 0) (fun _ _ => rfl)))) (pss_one (ps_ret (pe_callB (cr_all rfl) (by rfl) (z_all T) (by decide +kernel) (pa_cons (pe_lc (own := [("less", 4), ("more", 5)]) (g := (gTup K 2 (gCons (gName 4) (gCons (gName 5) gNil)))) rfl sc_grows.nd (pi_zip (by rfl) (z_zip T) (pa_cons (pv 3) (pa_cons (pe_slice sl_list (pv 3) (po_some pe_int) po_none) pa_nil))) (blkOk_by (own := [("less", 4), ("more", 5)]) (N := ["number", "tables", "table", "sums", "less", "more"]) (sc := defScope s_grows) (by decide +kernel)) (fun _ _ _ _ _ => (pg_tupK (K := K) rfl rfl (pgs_cons (pg_name (i := 4) sc_grows.nd rfl (Or.inl rfl)) (pgs_cons (pg_name (i := 5) sc_grows.nd rfl (Or.inl rfl)) pgs_nil)))) (fun _ _ _ _ _ => by exact pts_nil) (fun _ _ _ _ _ => by exact (pe_cmpR op_lt (pv 4) (pv 5) (nomark _)))) pa_nil)))))), ?_⟩
    have lt : ts.length = sn.length := Paired.length pt
    refine ⟨_, rfl, a, rfl, ⟨_, SqL.of ha⟩, fun R hR => ?_⟩
    refine lc_list (K := K) (a := a) (xs := ts.map V.ref) (fun i H' => Same H H' ∧ H' R = some (.lst (((memB sn kk).take i).map V.bl))) ⟨same_new hR, upd_same⟩ (fun i H' _ h => SqL.of (h.1 _ _ ha)) ?_ ?_
    · rintro i x H2 hi ⟨s2, g2⟩
      rw [List.getElem?_map] at hi
      obtain ⟨t, ht, rfl⟩ := Option.map_eq_some_iff.mp hi
      obtain ⟨s, hs, tg⟩ : ∃ s, sn[i]? = some s ∧ TabG H t s.1 s.2 := by
        rcases Paired.at i pt with ⟨z, _⟩ | ⟨a1, a2, a3, a4, a5⟩
        · rw [ht] at z; cases z
        · rw [ht] at a3; cases a3
          exact ⟨a2, a4, a5⟩
      have il := (List.getElem?_eq_some_iff.mp hs).1
      have nx : (memB sn kk).take (i + 1) = (memB sn kk).take i ++ [decide (kk ∈ s.2)] := take_snoc (by unfold memB; rw [List.getElem?_map, hs]; rfl)
      have dg := LinkAt.get (k := .inl (kk : Int)) (tg.same s2)
      refine ⟨rfl, _, rfl, _, rfl, t, _, rfl, dg, _, g2, szl ?_, same_mut s2 hR, ?_⟩
      · rw [List.length_map, List.length_take]; omega
      · rw [upd_same, nx, List.map_append, dK_some]; rfl
    rintro H2 ⟨s2, g2⟩
    rw [show (ts.map V.ref).length = (memB sn kk).length from by unfold memB; rw [List.length_map, List.length_map, lt], List.take_length] at g2
    refine ⟨R, _, rfl, SqL.of g2, _, rfl, ?_⟩
    cases hb : (memB sn kk).all id with
    | false =>
      have e : growB sn kk = false := by unfold growB; rw [hb]; rfl
      rw [e] at k
      exact if_t rfl (k H2 s2)
    | true =>
      have e : growB sn kk = (incB (sumL sn kk)).all id := by unfold growB; rw [hb]; rfl
      rw [e] at k
      refine if_f rfl ?_
      refine ⟨_, rfl, a, rfl, ⟨_, SqL.of (s2 _ _ ha)⟩, fun R2 hR2 => ?_⟩
      refine lc_list (K := K) (a := a) (xs := ts.map V.ref) (fun i H' => Same H2 H' ∧ H' R2 = some (.lst (((sumL sn kk).take i).map V.int))) ⟨same_new hR2, upd_same⟩ (fun i H' _ h => SqL.of (h.1 _ _ (s2 _ _ ha))) ?_ ?_
      · rintro i x H3 hi ⟨s3, g3⟩
        rw [List.getElem?_map] at hi
        obtain ⟨t, ht, rfl⟩ := Option.map_eq_some_iff.mp hi
        obtain ⟨s, hs, tg⟩ : ∃ s, sn[i]? = some s ∧ TabG H t s.1 s.2 := by
          rcases Paired.at i pt with ⟨z, _⟩ | ⟨a1, a2, a3, a4, a5⟩
          · rw [ht] at z; cases z
          · rw [ht] at a3; cases a3
            exact ⟨a2, a4, a5⟩
        have il := (List.getElem?_eq_some_iff.mp hs).1
        have hm : kk ∈ s.2 := by
          have := List.all_eq_true.mp hb (decide (kk ∈ s.2)) (List.mem_map_of_mem (List.mem_of_getElem? hs))
          exact of_decide_eq_true this
        have nx : (sumL sn kk).take (i + 1) = (sumL sn kk).take i ++ [totS s.1 s.2 kk] := take_snoc (by unfold sumL; rw [List.getElem?_map, hs]; rfl)
        have dg : DGet H3 t (.int (kk : Int)) (some (.int (totS s.1 s.2 kk))) := by have := LinkAt.get (k := .inl (kk : Int)) (tg.same (s2.trans s3)); rw [dK_int hm] at this; exact this
        refine ⟨rfl, _, rfl, _, rfl, t, _, rfl, dg, _, g3, szl ?_, same_mut s3 hR2, ?_⟩
        · rw [List.length_map, List.length_take]; omega
        · rw [upd_same, nx, List.map_append]; rfl
      rintro H3 ⟨s3, g3⟩
      rw [show (ts.map V.ref).length = (sumL sn kk).length from by unfold sumL; rw [List.length_map, List.length_map, lt], List.take_length] at g3
      have ll : (sumL sn kk).length ≤ 8 := by unfold sumL; rw [List.length_map]; exact l8
      refine ⟨_, rfl, _, rfl, _, rfl, R2, _, rfl, SqL.of g3, fun Z hZ => ?_⟩
      rw [cut1]
      have s4 := same_new (o := .lst (((sumL sn kk).map V.int).drop 1)) hZ
      have gZ : upd H3 Z (.lst (((sumL sn kk).map V.int).drop 1)) Z = some (.lst (((sumL sn kk).map V.int).drop 1)) := upd_same
      have g4 := s4 _ _ g3
      generalize upd H3 Z (.lst (((sumL sn kk).map V.int).drop 1)) = H4 at s4 gZ g4 ⊢
      refine ⟨R2, Z, _, _, rfl, SqL.of g4, SqL.of gZ, fun W hW => ?_⟩
      have lz : (incB (sumL sn kk)).length = min ((sumL sn kk).map V.int).length (((sumL sn kk).map V.int).drop 1).length := by
        unfold incB
        rw [List.length_map, List.length_zip, List.length_map, List.length_drop, List.length_drop, List.length_map]
      refine lc_it (walk_zip (K := K) (xs := (sumL sn kk).map V.int) (ys := ((sumL sn kk).map V.int).drop 1) lz) (fun i H' => Same H4 H' ∧ H' W = some (.lst (((incB (sumL sn kk)).take i).map V.bl))) ⟨same_new hW, upd_same⟩ (fun i H' _ h => ⟨SqL.of (h.1 _ _ g4), SqL.of (h.1 _ _ gZ)⟩) ?_ ?_
      · rintro i x H5 H6 hi ⟨s5, g5⟩ ⟨tq, u, v, rfl, htq, rfl, hu', hv'⟩
        have hu' : ((sumL sn kk).map V.int)[i]? = some u := hu'
        have hv' : (((sumL sn kk).map V.int).drop 1)[i]? = some v := hv'
        rw [List.getElem?_map] at hu'
        obtain ⟨x, hx, rfl⟩ := Option.map_eq_some_iff.mp hu'
        rw [← List.map_drop, List.getElem?_map] at hv'
        obtain ⟨y, hy, rfl⟩ := Option.map_eq_some_iff.mp hv'
        have il := (List.getElem?_eq_some_iff.mp hx).1
        have nx : (incB (sumL sn kk)).take (i + 1) = (incB (sumL sn kk)).take i ++ [decide (x < y)] := take_snoc (by
          unfold incB
          rw [List.getElem?_map, (List.getElem?_zip_eq_some (z := (x, y))).mpr ⟨hx, hy⟩]; rfl)
        have s6 := same_new (o := .tup [.int x, .int y]) htq
        refine ⟨tq, _, rfl, SqT.of upd_same, rfl, _, _, rfl, _, _, rfl, rfl, rfl, ?_⟩
        refine ⟨_, rfl, _, rfl, _, _, rfl, rfl, _, s6 _ _ g5, szl ?_, same_mut (s5.trans s6) hW, ?_⟩
        · rw [List.length_map, List.length_take]; omega
        · rw [upd_same, nx, List.map_append]; rfl
      rintro H5 ⟨s5, g5⟩
      rw [List.take_length] at g5
      exact ⟨W, _, rfl, SqL.of g5, k _ (s2.trans (s3.trans (s4.trans s5)))⟩
noncomputable def kaL (S : Sta) (ks gs : List Nat) (k : Nat) : List Bool := ((keepL S ks k).filter fun j => !(decide (j = k))).map fun j => decide (j ∈ gs)
def spAnother (K : PySem.W.Frag) : Sp := fun vs H Q _ => ∃ (q g : Addr) (k : Nat) (S : Sta) (ks gs : List Nat), vs = [.ref q, .int (k : Int), .ref g] ∧ PhoAt H q S ks ∧ PhoOk S ks ∧ k ∈ ks ∧ LinkAt H g (gs.map fun (j : Nat) => ((.inl (j : Int) : Key), V.bl true)) ∧
  ∀ H', Same H H' → Q (.bl ((kaL S ks gs k).any id)) H'
theorem ok_keeps_another (T : Tx w K mg) : DefOk ⟨P, w, K, mg, base⟩ 8 (ga K "keeps_another") ["photo", "number", "among"] (spAnother K) := by
  refine DefOk.mk' (f_keeps_another T) sc_keeps_another (fun _ _ _ _ _ _ us hl => match us, hl with | [_, _, _], _ => rfl) (fun vs H Q E h => ?_) (fun cdv A outer s H vs Q E hr h => ?_)
  · obtain ⟨q, g, k, S, ks, gs, rfl, _⟩ := h
    rfl
  · obtain ⟨q, g, kk, S, ks, gs, rfl, ph, po, hk, lg, k⟩ := h
    have hu := hu_of hr
    refine ⟨_, (pss_one (ps_ret (pe_callB (cr_any rfl) (by rfl) (z_any T) (by decide +kernel) (pa_cons (pe_lc (own := [("kept", 3)]) (g := (gName 3)) rfl sc_keeps_another.nd (pi_list (pe_cg (M := ⟨P, w, K, mg, base⟩) rfl hr rfl (pa_cons (pv 0) (pa_cons (pv 1) pa_nil)))) (blkOk_by (own := [("kept", 3)]) (N := ["photo", "number", "among", "kept"]) (sc := defScope s_keeps_another) (by decide +kernel)) (fun _ _ _ _ _ => (pg_name (i := 3) sc_keeps_another.nd rfl (Or.inl rfl))) (fun _ _ _ _ _ => by exact (pts_one (pt_cmpR op_ne (pv 3) (pv 1) (nomark _)))) (fun _ _ _ _ _ => by exact (pe_cmp (pc_din hu (pv 3) (pv 2)) rfl))) pa_nil)))), ?_⟩
    refine ⟨_, _, _, _, g_keeps T, ok_keeps T, by decide, _, rfl, _, rfl, q, kk, S, ks, rfl, ph, po, hk, fun r H1 s1 nr gr => ?_⟩
    refine ⟨r, rfl, ⟨_, SqL.of gr⟩, fun R hR => ?_⟩
    have kl := keep_len (S := S) (ks := ks) (k := kk)
    have lks := po.len
    refine lc_list (K := K) (a := r) (xs := nV (keepL S ks kk)) (fun i H' => Same H1 H' ∧ H' R = some (.lst (((((keepL S ks kk).take i).filter fun j => !(decide (j = kk))).map fun j => decide (j ∈ gs)).map V.bl))) ⟨same_new hR, upd_same⟩ (fun i H' _ h => SqL.of (h.1 _ _ gr)) ?_ ?_
    · rintro i x H2 hi ⟨s2, g2⟩
      unfold nV at hi
      rw [List.getElem?_map] at hi
      obtain ⟨j, hj, rfl⟩ := Option.map_eq_some_iff.mp hi
      have il := (List.getElem?_eq_some_iff.mp hj).1
      refine ⟨rfl, ?_⟩
      refine ⟨_, rfl, _, rfl, rfl, _, rfl, ?_⟩
      show if (!decide (V.int (j : Int) = V.int (kk : Int))) = true then _ else _
      by_cases z : j = kk
      · have nx := filt_no (p := fun j => !(decide (j = kk))) hj (by rw [decide_eq_true z]; rfl)
        rw [decide_eq_true (show V.int (j : Int) = V.int (kk : Int) by rw [z])]
        exact if_f rfl ⟨s2, by rw [nx]; exact g2⟩
      · have nx := filt_yes (p := fun j => !(decide (j = kk))) hj (by rw [decide_eq_false z]; rfl)
        rw [decide_eq_false (show ¬ (V.int (j : Int) = V.int (kk : Int)) from fun y => z (by have := V.int.inj y; omega))]
        refine if_t rfl ?_
        refine ⟨_, rfl, _, rfl, g, _, rfl, LinkAt.get (k := .inl (j : Int)) (lg.same (s1.trans s2)), _, g2, szl ?_, same_mut s2 hR, ?_⟩
        · rw [List.length_map, List.length_map]
          exact Nat.le_trans (List.length_filter_le _ _) (by rw [List.length_take]; omega)
        · rw [upd_same, nx, List.map_append, List.map_append, dK_some]; rfl
    rintro H2 ⟨s2, g2⟩
    rw [show (nV (keepL S ks kk)).length = (keepL S ks kk).length from List.length_map _, List.take_length] at g2
    exact ⟨R, _, rfl, SqL.of g2, k H2 (s1.trans s2)⟩
theorem dc_itY {J : It} {n : Nat} {G : Hp → Prop} {Y : Nat → Hp → V → Hp → Prop} (w : Walk J n G Y) {g : TG} {tt : TT} {tk tv : TE} {vs : List Nat} {σ : L2.St} {H1 : Hp} {D : Addr} {Qd : Hp → Prop} (Pv : Nat → Hp → Prop) (h0 : Pv 0 (upd H1 D (.dK []))) (hG : ∀ i H, i ≤ n → Pv i H → G H)
    (hs : ∀ i x H H', i < n → Pv i H → Y i H x H' → g x (wipe σ vs) H' fun σ2 H2 => wipe σ2 vs = wipe σ vs ∧ tt σ2 H2 fun b H3 => if b = true then tk σ2 H3 fun y H4 => tv σ2 H4 fun z H5 => ∃ kvs k, y = kV k ∧ H5 D = some (.dK kvs) ∧ kvs.length < sizeLine ∧ Pv (i + 1) (upd H5 D (.dK (putK kvs k z))) else Pv (i + 1) H3)
    (hd : ∀ H, Pv n H → Qd H) :
    ∃ W : Nat → Nat → Hp → Prop, (∃ m, W 0 m (upd H1 D (.dK []))) ∧ ∀ i m H, W i m H → J.stop i H ∧ Qd H ∨ J.go i H ∧ ∃ Nx : Hp → Prop, (∀ H', Nx H' → ∃ m', m' < m ∧ W (i + 1) m' H') ∧ ∀ x H', J.yld i H x H' →
      g x (wipe σ vs) H' fun σ2 H2 => wipe σ2 vs = wipe σ vs ∧ tt σ2 H2 fun b H3 => if b = true then tk σ2 H3 fun y H4 => tv σ2 H4 fun z H5 => ∃ kvs k, y = kV k ∧ H5 D = some (.dK kvs) ∧ kvs.length < sizeLine ∧ Nx (upd H5 D (.dK (putK kvs k z))) else Nx H3 := by
  refine ⟨fun i m H => m = n - i ∧ i ≤ n ∧ Pv i H, ⟨_, rfl, Nat.zero_le _, h0⟩, ?_⟩
  rintro i m H ⟨rfl, hi, hp⟩
  rcases Nat.lt_or_ge i n with h | h
  · exact .inr ⟨w.goes i H h (hG i H hi hp), Pv (i + 1), fun H' hp' => ⟨n - (i + 1), by omega, rfl, h, hp'⟩, fun x H' y => hs i x H H' h hp (w.yields i H x H' h (hG i H hi hp) y)⟩
  · have e : i = n := Nat.le_antisymm hi h
    subst e
    exact .inl ⟨w.stops H (hG _ H hi hp), hd H hp⟩
theorem not_in_take {ks : List Nat} (srt : ks.Pairwise (· < ·)) {i kk : Nat} (hkk : ks[i]? = some kk) : kk ∉ ks.take i := fun z => by
  have il : i < ks.length := (List.getElem?_eq_some_iff.mp hkk).1
  rw [← List.take_append_drop i ks] at srt
  have h1 := (List.pairwise_append.mp srt).2.2 kk z kk (by rw [List.drop_eq_getElem_cons il]; rw [(List.getElem?_eq_some_iff.mp hkk).2]; exact List.mem_cons_self)
  exact Nat.lt_irrefl _ h1
theorem Paired.unsnoc {α β : Type} {R : α → β → Prop} {y : β} : ∀ {ys : List β} {xs : List α}, Paired R xs (ys ++ [y]) → ∃ xs0 x, xs = xs0 ++ [x] ∧ Paired R xs0 ys ∧ R x y
  | [], _, h => by
    cases h with
    | cons r t => cases t; exact ⟨[], _, rfl, .nil, r⟩
  | _ :: _, _, h => by
    cases h with
    | cons r t =>
      obtain ⟨xs0, x, rfl, p, q⟩ := Paired.unsnoc t
      exact ⟨_ :: xs0, x, rfl, .cons r p, q⟩
theorem dK_putB {l : List Nat} {k : Nat} (h : k ∉ l) : putK (l.map fun (j : Nat) => ((.inl (j : Int) : Key), V.bl true)) (.inl (k : Int)) (V.bl true) = (l ++ [k]).map fun (j : Nat) => ((.inl (j : Int) : Key), V.bl true) := by
  rw [dK_put (g := fun _ => V.bl true) h]
  refine List.map_congr_left fun j _ => ?_
  by_cases z : j = k
  · rw [if_pos z]
  · rw [if_neg z]
/-- what grows from photo to photo -/
noncomputable def grL (sn : List Snap) (ks : List Nat) : List Nat := ks.filter fun k => growB sn k
noncomputable def leakL (sn : List Snap) (S : Sta) (ks : List Nat) : List Nat := (grL sn ks).filter fun k => !((kaL S ks (grL sn ks) k).any id)
def spLeak (K : PySem.W.Frag) : Sp := fun vs H Q _ => ∃ (a : Addr) (qs : List Addr) (sn : List Snap) (q : Addr) (S : Sta) (ks : List Nat), vs = [.ref a] ∧ H a = some (.lst ((qs ++ [q]).map V.ref)) ∧ Paired (fun q s => PhoAt H q s.1 s.2) (qs ++ [q]) (sn ++ [(S, ks)]) ∧ (∀ s ∈ sn ++ [(S, ks)], PhoOk s.1 s.2) ∧ 1 ≤ sn.length ∧ sn.length ≤ 7 ∧
  ∀ R H', Same H H' → H R = none → H' R = some (.lst (nV (leakL (sn ++ [(S, ks)]) S ks))) → Q (.ref R) H'
theorem ok_leak (T : Tx w K mg) : DefOk ⟨P, w, K, mg, base⟩ 9 (ga K "leak") ["photos"] (spLeak K) := by
  refine DefOk.mk' (f_leak T) sc_leak (fun _ _ _ _ _ _ us hl => match us, hl with | [_], _ => rfl) (fun vs H Q E h => ?_) (fun cdv A outer s H vs Q E hr h => ?_)
  · obtain ⟨a, qs, sn, q, S, ks, rfl, _⟩ := h
    rfl
  · obtain ⟨a, qs, sn, q, S, ks, rfl, ha, pt, po, l1, l7, k⟩ := h
    have hu := hu_of hr
    refine ⟨_, (pss_cons (ps_if (pt_not (pt_val (pe_cg (M := ⟨P, w, K, mg, base⟩) rfl hr rfl (pa_cons (pe_callB call_len_seq (by rfl) (z_len T) PySem.boot_len (pa_cons (pv 0) pa_nil)) (pa_cons (pe_glob (v := .int 2) rfl (i_LEAST_PHOTOS T).choose_spec ⟨_, rfl⟩) (pa_cons (pe_glob (v := .int 8) rfl (i_MOST_PHOTOS T).choose_spec ⟨_, rfl⟩) pa_nil)))))) (pss_one ps_never) pss_nil) (pss_cons (ps_set (i := 2) sc_leak.nd rfl (Or.inr rfl) (pe_lc (own := [("photo", 1)]) (g := (gName 1)) rfl sc_leak.nd (pi_list (pv 0)) (blkOk_by (own := [("photo", 1)]) (N := ["photos", "photo", "tables", "number", "grown"]) (sc := defScope s_leak) (by decide +kernel)) (fun _ _ _ _ _ => (pg_name (i := 1) sc_leak.nd rfl (Or.inl rfl))) (fun _ _ _ _ _ => by exact pts_nil) (fun _ _ _ _ _ => by exact (pe_callTy (call_dictPK (K := K) rfl rfl) (by rfl) (z_dict T) (by decide +kernel) (pa_cons (pe_cg (M := ⟨P, w, K, mg, base⟩) rfl hr rfl (pa_cons (pv 1) pa_nil)) pa_nil))))) (pss_cons (ps_set (i := 4) sc_leak.nd rfl (Or.inr rfl) (pe_lock (pe_dc (own := [("number", 3)]) (g := (gName 3)) rfl sc_leak.nd (pi_keys (pe_ix ix_list (pv 2) (pe_un un_neg pe_int) (fun _ _ => rfl))) (blkOk_by (own := [("number", 3)]) (N := ["photos", "photo", "tables", "number", "grown"]) (sc := defScope s_leak) (by decide +kernel)) (fun _ _ _ _ _ => (pg_name (i := 3) sc_leak.nd rfl (Or.inl rfl))) (fun _ _ _ _ _ => by exact (pts_one (pt_val (pe_cg (M := ⟨P, w, K, mg, base⟩) rfl hr rfl (pa_cons (pv 3) (pa_cons (pv 2) pa_nil)))))) (fun _ _ _ _ _ => by exact (pv 3)) (fun _ _ _ _ _ => by exact pe_bl)))) (pss_one (ps_ret (pe_lock (pe_lc (own := [("number", 3)]) (g := (gName 3)) rfl sc_leak.nd (pi_keys (pv 4)) (blkOk_by (own := [("number", 3)]) (N := ["photos", "photo", "tables", "number", "grown"]) (sc := defScope s_leak) (by decide +kernel)) (fun _ _ _ _ _ => (pg_name (i := 3) sc_leak.nd rfl (Or.inl rfl))) (fun _ _ _ _ _ => by exact (pts_one (pt_not (pt_val (pe_cg (M := ⟨P, w, K, mg, base⟩) rfl hr rfl (pa_cons (pe_ix (ixK rIxL rfl ix_list) (pv 0) (pe_un un_neg pe_int) (fun _ _ => rfl)) (pa_cons (pv 3) (pa_cons (pv 4) pa_nil)))))))) (fun _ _ _ _ _ => by exact (pv 3))))))))), ?_⟩
    have lt : qs.length + 1 = sn.length + 1 := by have := Paired.length pt; rw [List.length_append, List.length_append] at this; exact this
    have lq : ((qs ++ [q]).map V.ref).length = sn.length + 1 := by rw [List.length_map, List.length_append]; exact lt
    refine ⟨_, _, _, _, g_is_within T, ok_is_within T, by decide, _, rfl, a, _, rfl, .inl (SqL.of ha), (((qs ++ [q]).map V.ref).length : Int), 2, 8, rfl, ?_⟩
    rw [decide_eq_true (show (2 : Int) ≤ (((qs ++ [q]).map V.ref).length : Int) by omega), decide_eq_true (show (((qs ++ [q]).map V.ref).length : Int) ≤ 8 by omega)]
    refine ⟨_, rfl, if_f rfl ?_⟩
    refine ⟨_, rfl, a, rfl, ⟨_, SqL.of ha⟩, fun R hR => ?_⟩
    refine lc_list (K := K) (a := a) (xs := (qs ++ [q]).map V.ref) (fun i H' => Same H H' ∧ ∃ ts : List Addr, H' R = some (.lst (ts.map V.ref)) ∧ Paired (fun t s => TotD H' t s.1 s.2) ts ((sn ++ [(S, ks)]).take i)) ⟨same_new hR, [], upd_same, .nil⟩ (fun i H' _ h => SqL.of (h.1 _ _ ha)) ?_ ?_
    · rintro i x H2 hi ⟨s2, ts, g2, p2⟩
      rw [List.getElem?_map] at hi
      obtain ⟨t, ht, rfl⟩ := Option.map_eq_some_iff.mp hi
      obtain ⟨s, hs, ph⟩ : ∃ s, (sn ++ [(S, ks)])[i]? = some s ∧ PhoAt H t s.1 s.2 := by
        rcases Paired.at i pt with ⟨z, _⟩ | ⟨a1, a2, a3, a4, a5⟩
        · rw [ht] at z; cases z
        · rw [ht] at a3; cases a3
          exact ⟨a2, a4, a5⟩
      have il := (List.getElem?_eq_some_iff.mp hs).1
      rw [List.length_append, List.length_singleton] at il
      have os := po s (List.mem_of_getElem? hs)
      refine ⟨rfl, ?_⟩
      refine ⟨_, _, _, _, g_totals T, ok_totals T, by decide, _, rfl, t, s.1, s.2, rfl, ph.same s2, os, fun r1 H3 s3 nr1 t1 => ?_⟩
      obtain ⟨ts1, e1, p1⟩ := t1.par
      refine ⟨r1, ts1, _, rfl, SqL.of e1, ParD.sq p1, fun E hE => ?_⟩
      rw [dK_merge0 (g := fun k => V.int (totS s.1 s.2 k)) os.srt]
      have s4 := s3.trans (same_new (o := .dK (s.2.map fun (k : Nat) => ((.inl (k : Int) : Key), V.int (totS s.1 s.2 k)))) hE)
      refine ⟨_, s4 _ _ g2, szl ?_, same_mut (s2.trans s4) hR, ts ++ [E], ?_, ?_⟩
      · rw [List.length_map, Paired.length p2, List.length_take]; omega
      · rw [upd_same, List.map_append]; rfl
      · rw [take_snoc hs]
        have nER : E ≠ R := fun z => by rw [z, s3 _ _ g2] at hE; cases hE
        refine Paired.snoc (Paired.imp (fun t' s' e => ?_) p2) ?_
        · show upd _ _ _ _ = _
          rw [upd_ne (fun z => by rw [z] at e; rw [show H2 R = _ from e] at g2; cases g2)]
          exact s4 _ _ e
        · show upd _ _ _ _ = _
          rw [upd_ne nER, upd_same]
    rintro H2 ⟨s2, ts, g2, p2⟩
    rw [lq, List.take_of_length_le (by rw [List.length_append]; exact Nat.le_refl _)] at p2
    obtain ⟨ts0, r, rfl, p20, td⟩ := Paired.unsnoc p2
    have gR : H2 R = some (.lst (ts0.map V.ref ++ [V.ref r])) := by rw [g2, List.map_append]; rfl
    have nRr : R ≠ r := fun z => by rw [← z] at td; rw [show H2 R = _ from td] at g2; cases g2
    have lks : ks.length ≤ 1000 := (po _ (List.mem_append_right _ List.mem_cons_self)).len
    have srt : ks.Pairwise (· < ·) := (po _ (List.mem_append_right _ List.mem_cons_self)).srt
    dsimp only [gName]
    refine ⟨r, _, td, trivial, fun od => ⟨_, rfl, 1, rfl, R, _, -1, .ref r, rfl, rfl, SqL.of (by rw [upd_ne nRr]; exact gR), at_last, r, od, rfl, .inl ⟨_, upd_same, fun D hD => ?_⟩⟩⟩
    have nDr : D ≠ r := fun z => by rw [z, upd_same] at hD; cases hD
    have D0 : H2 D = none := by rw [upd_ne nDr] at hD; exact hD
    have tgF : Paired (fun t s => TabG (upd H2 r (.frz od (.dK (ks.map fun (k : Nat) => ((.inl (k : Int) : Key), V.int (totS S ks k)))))) t s.1 s.2) (ts0 ++ [r]) (sn ++ [(S, ks)]) := Paired.imp (fun t s e => by
      by_cases z : t = r
      · subst z
        have := (show H2 t = _ from e).symm.trans td
        refine .inr ⟨od, ?_⟩
        rw [upd_same, ← Option.some.inj this]
      · exact .inl (by rw [upd_ne z]; exact e)) p2
    have gRF : upd H2 r (.frz od (.dK (ks.map fun (k : Nat) => ((.inl (k : Int) : Key), V.int (totS S ks k))))) R = some (.lst ((ts0 ++ [r]).map V.ref)) := by rw [upd_ne nRr]; exact g2
    refine dc_itY walk_keys (fun i H' => Same (upd H2 r (.frz od (.dK (ks.map fun (k : Nat) => ((.inl (k : Int) : Key), V.int (totS S ks k)))))) H' ∧ H' D = some (.dK (((ks.take i).filter fun k => growB (sn ++ [(S, ks)]) k).map fun (j : Nat) => ((.inl (j : Int) : Key), V.bl true)))) ⟨same_new hD, upd_same⟩ (fun i H' _ h => h.1 _ _ upd_same) ?_ ?_
    · rintro i x HX H5 hi ⟨s5, g5⟩ ⟨rfl, kx, vx, hkv, rfl⟩
      rw [List.getElem?_map] at hkv
      obtain ⟨j, hj, ej⟩ := Option.map_eq_some_iff.mp hkv
      obtain ⟨rfl, rfl⟩ := Prod.mk.inj ej
      have il := (List.getElem?_eq_some_iff.mp hj).1
      refine ⟨rfl, ?_⟩
      refine ⟨_, _, _, _, g_grows T, ok_grows T, by decide, _, rfl, _, rfl, R, j, ts0 ++ [r], sn ++ [(S, ks)], rfl, s5 _ _ gRF, Paired.imp (fun _ _ z => z.same s5) tgF, by rw [List.length_append]; show sn.length + 1 ≤ 8; omega, fun H6 s6 => ⟨_, rfl, ?_⟩⟩
      have g6 := s6 _ _ g5
      cases z : growB (sn ++ [(S, ks)]) j with
      | false =>
        have nx := filt_no (p := fun k => growB (sn ++ [(S, ks)]) k) hj z
        exact if_f rfl ⟨s5.trans s6, by rw [nx]; exact g6⟩
      | true =>
        have nx := filt_yes (p := fun k => growB (sn ++ [(S, ks)]) k) hj z
        refine if_t rfl ⟨_, rfl, _, .inl (j : Int), rfl, g6, szl ?_, same_mut (s5.trans s6) hD, ?_⟩
        · rw [List.length_map]
          exact Nat.le_trans (List.length_filter_le _ _) (by rw [List.length_take]; omega)
        · rw [upd_same, nx]
          exact congrArg (fun z => some (HO.dK z)) (dK_putB fun z => not_in_take srt hj (List.mem_filter.mp z).1)
    rintro H5 ⟨s5, g5⟩
    rw [List.length_map, List.take_length] at g5
    refine ⟨s5 _ _ upd_same, ?_⟩
    have s6 : Same H2 (upd H5 r (.dK (ks.map fun (k : Nat) => ((.inl (k : Int) : Key), V.int (totS S ks k))))) := lock_same (od := od) td s5
    have gD : upd H5 r (.dK (ks.map fun (k : Nat) => ((.inl (k : Int) : Key), V.int (totS S ks k)))) D = some (.dK ((grL (sn ++ [(S, ks)]) ks).map fun (j : Nat) => ((.inl (j : Int) : Key), V.bl true))) := by rw [upd_ne nDr]; exact g5
    generalize upd H5 r (.dK (ks.map fun (k : Nat) => ((.inl (k : Int) : Key), V.int (totS S ks k)))) = H6 at s6 gD ⊢
    clear s5 g5 hD
    have s7 := s2.trans s6
    have ha7 : H6 a = some (.lst (qs.map V.ref ++ [V.ref q])) := by rw [s7 _ _ ha, List.map_append]; rfl
    obtain ⟨_, _, eqq, _, phq⟩ := Paired.unsnoc pt
    obtain ⟨rfl, eq1⟩ := List.append_inj' eqq rfl
    have := List.cons.inj eq1
    obtain ⟨rfl, _⟩ := this
    have phq7 := phq.same s7
    have poq := po _ (List.mem_append_right _ (List.mem_cons_self (a := (S, ks))))
    dsimp only [gName]
    refine ⟨D, _, gD, trivial, fun od2 => ⟨_, rfl, D, od2, rfl, .inl ⟨_, upd_same, fun W hW => ?_⟩⟩⟩
    have nWD : W ≠ D := fun z => by rw [z, upd_same] at hW; cases hW
    have W0 : H6 W = none := by rw [upd_ne nWD] at hW; exact hW
    have kpD : Kp H6 (upd H6 D (.frz od2 (.dK ((grL (sn ++ [(S, ks)]) ks).map fun (j : Nat) => ((.inl (j : Int) : Key), V.bl true))))) := ⟨tup_upd (by rw [gD]; intro xs z; cases z; rfl), fun a xs e' => by rw [upd_ne (fun z => by rw [z, gD] at e'; cases e')]; exact e'⟩
    have phF := phq7.keep kpD
    have haF := kpD.ls _ _ ha7
    have lgr : (grL (sn ++ [(S, ks)]) ks).length ≤ 1000 := Nat.le_trans (List.length_filter_le _ _) lks
    refine lc_it walk_keys (fun i H' => Same (upd H6 D (.frz od2 (.dK ((grL (sn ++ [(S, ks)]) ks).map fun (j : Nat) => ((.inl (j : Int) : Key), V.bl true))))) H' ∧ H' W = some (.lst (nV (((grL (sn ++ [(S, ks)]) ks).take i).filter fun k => !((kaL S ks (grL (sn ++ [(S, ks)]) ks) k).any id))))) ⟨same_new hW, upd_same⟩ (fun i H' _ h => h.1 _ _ upd_same) ?_ ?_
    · rintro i x HX H5 hi ⟨s5, g5⟩ ⟨rfl, kx, vx, hkv, rfl⟩
      rw [List.getElem?_map] at hkv
      obtain ⟨j, hj, ej⟩ := Option.map_eq_some_iff.mp hkv
      obtain ⟨rfl, rfl⟩ := Prod.mk.inj ej
      have il := (List.getElem?_eq_some_iff.mp hj).1
      have jm : j ∈ ks := (List.mem_filter.mp (List.mem_of_getElem? hj)).1
      refine ⟨rfl, ?_⟩
      refine ⟨_, _, _, _, g_keeps_another T, ok_keeps_another T, by decide, _, rfl, 1, rfl, a, _, -1, .ref q, rfl, rfl, SqL.of (s5 _ _ haF), at_last, _, rfl, _, rfl, q, D, j, S, ks, grL (sn ++ [(S, ks)]) ks, rfl, phF.same s5, poq, jm, .inr ⟨od2, s5 _ _ upd_same⟩, fun H7 s8 => ⟨_, rfl, ?_⟩⟩
      have g7 := s8 _ _ g5
      cases z : (kaL S ks (grL (sn ++ [(S, ks)]) ks) j).any id with
      | true =>
        have nx := filt_no (p := fun k => !((kaL S ks (grL (sn ++ [(S, ks)]) ks) k).any id)) hj (by rw [z]; rfl)
        exact if_f rfl ⟨s5.trans s8, by rw [nx]; exact g7⟩
      | false =>
        have nx := filt_yes (p := fun k => !((kaL S ks (grL (sn ++ [(S, ks)]) ks) k).any id)) hj (by rw [z]; rfl)
        refine if_t rfl ⟨_, rfl, _, g7, szl ?_, same_mut (s5.trans s8) hW, ?_⟩
        · unfold nV
          rw [List.length_map]
          exact Nat.le_trans (List.length_filter_le _ _) (by rw [List.length_take]; omega)
        · rw [upd_same, nx]; unfold nV; rw [List.map_append]; rfl
    rintro H5 ⟨s5, g5⟩
    rw [List.length_map, List.take_length] at g5
    refine ⟨s5 _ _ upd_same, ?_⟩
    have s9 : Same H6 (upd H5 D (.dK ((grL (sn ++ [(S, ks)]) ks).map fun (j : Nat) => ((.inl (j : Int) : Key), V.bl true)))) := lock_same (od := od2) gD s5
    exact k W _ (s7.trans s9) (s7.free W0) (by rw [upd_ne nWD]; exact g5)
end
end WK
namespace WK
open PySem PySem.Spec PyProof.Rows L2 He WB PySem.W
section
variable {P : Program} {w : World} {K : PySem.W.Frag} {mg : Str → Option Value} {base : Heap}
def spDoAll (K : PySem.W.Frag) : Sp := fun vs H Q _ => ∃ (p F : Addr) (S : Sta) (OP ps : List Addr) (d0 ds : List Deed) (ts : List Told), vs = [.ref p, .ref F] ∧ PlainAt K H p S OP ∧ H F = some (.lst (ps.map V.ref)) ∧ F ∉ OP ∧ Paired (DeedAt H) ps ds ∧ (∀ d ∈ d0, d.ok) ∧ Runs S0 d0 ts S ∧ d0.length + ds.length ≤ 790 ∧
  ∀ v H' S' OP' ts', Stp OP H H' → Frs OP OP' H → PlainAt K H' p S' OP' → Runs S0 (d0 ++ ds) ts' S' → Q v H'
theorem Frs.trans {O O1 O2 : List Addr} {H H1 : Hp} (a : Frs O O1 H) (st : Stp O H H1) (b : Frs O1 O2 H1) : Frs O O2 H := fun x hx => by
  rcases b x hx with z | z
  · exact a x z
  · by_cases y : x ∈ O
    · exact .inl y
    · refine .inr ?_
      cases q : H x with
      | none => rfl
      | some o => rw [st _ _ q y] at z; cases z
theorem off2' {H : Hp} {O O2 : List Addr} (fr : Frs O O2 H) {b : Addr} (e : H b ≠ none) (nb : b ∉ O) : b ∉ O2 := fun z => (fr b z).elim nb e
theorem ok_do_all (T : Tx w K mg) : DefOk ⟨P, w, K, mg, base⟩ 9 (ga K "do_all") ["plain", "program"] (spDoAll K) := by
  refine DefOk.mk' (f_do_all T) sc_do_all (fun _ _ _ _ _ _ us hl => match us, hl with | [_, _], _ => rfl) (fun vs H Q E h => ?_) (fun cdv A outer s H vs Q E hr h => ?_)
  · obtain ⟨p, F, S, OP, ps, d0, ds, ts, rfl, _⟩ := h
    rfl
  · obtain ⟨p, F, S, OP, ps, d0, ds, ts, rfl, P0, hF, FO, dp, ok0', run, ld, k⟩ := h
    have hu := hu_of hr
    refine ⟨_, (pss_one (ps_for PassesOwn.never rfl (pi_list (pv 1)) (pg_name (i := 2) sc_do_all.nd rfl (Or.inl rfl)) (pss_one (ps_expr (pe_md (M := ⟨P, w, K, mg, base⟩) rfl hr (pv 0) (pa_cons (pv 2) pa_nil)))))), ?_⟩
    have lds : ps.length = ds.length := Paired.length dp
    have dok : ∀ d ∈ ds, d.ok := fun d hd => by
      obtain ⟨x, _, y⟩ := pair_right dp hd
      exact y.1
    refine ⟨_, rfl, F, rfl, ⟨_, SqL.of hF⟩, ?_⟩
    refine for_list (K := K) (a := F) (xs := ps.map V.ref) (fun i σ H' => ∃ (Si : Sta) (ti : List Told) (OQ : List Addr) (x2 : Option V), σ = [some (.ref p), some (.ref F), x2] ∧ Stp OP H H' ∧ Frs OP OQ H ∧ PlainAt K H' p Si OQ ∧ Runs S0 (d0 ++ ds.take i) ti Si ∧ Tup H H')
      ⟨S, ts, OP, _, rfl, Stp.refl _ _, Frs.refl _ _, P0, by rw [List.take_zero, List.append_nil]; exact run, Same.tup (Same.refl _)⟩ (fun j σ H' _ ⟨_, _, _, _, _, u, _⟩ => SqL.of (u _ _ hF FO)) ?_ ?_
    · rintro i x σ H2 hi ⟨Si, ti, OQ, x2, rfl, st2, fr2, P2, r2, tp2⟩
      rw [List.getElem?_map] at hi
      obtain ⟨qd, hq, rfl⟩ := Option.map_eq_some_iff.mp hi
      obtain ⟨d, hd, dq⟩ : ∃ d, ds[i]? = some d ∧ DeedAt H qd d := by
        rcases Paired.at i dp with ⟨z, _⟩ | ⟨u, v, z1, z2, z3⟩
        · rw [hq] at z; cases z
        · rw [hq] at z1; cases z1; exact ⟨v, z2, z3⟩
      have il : i < ds.length := (List.getElem?_eq_some_iff.mp hd).1
      obtain ⟨oki, mi⟩ := r2.ok ok0 fun d hd => (List.mem_append.mp hd).elim (ok0' d) fun z => dok d (List.mem_of_mem_take z)
      have mi' : Si.made ≤ 790 := by
        have : S0.made = 0 := rfl
        rw [List.length_append, List.length_take] at mi
        omega
      obtain ⟨dp2, he, _, _, _, _, _, _, e2, _⟩ := id P2
      refine ⟨_, rfl, p, _, dp2, _, _, _, _, _, rfl, e2, (by kernel_rfl), c_Plain T, t_Plain_do T, ok_Plain_do T, by decide, _, rfl, p, qd, Si, OQ, d, rfl, P2, ⟨dq.1, tp2 _ _ dq.2⟩, oki, by omega, fun r H3 S3 OP3 told chg sr st3 fr3 tr3 P3 => ?_⟩
      refine ⟨S3, ti ++ [told], OP3, _, rfl, st2.trans fr2 st3, fr2.trans st2 fr3, P3, ?_, tp2.trans (PlainAt_tup P2 st3)⟩
      rw [take_snoc hd, ← List.append_assoc]
      exact .snoc r2 sr
    · rintro σ H2 ⟨Si, ti, OQ, x2, rfl, st2, fr2, P2, r2, _⟩
      rw [List.length_map, lds, List.take_length] at r2
      exact k _ H2 Si OQ ti st2 fr2 P2 r2
/-- a photo whose lists are new since H0, and none of N; its list of rows is lt -/
def PhoX (H0 : Hp) (N : Addr → Prop) (H : Hp) (p : Addr) (S : Sta) (ks : List Nat) (lt : Addr) : Prop := ∃ (ln : Addr) (vs : List V) (ts : List Addr), H p = some (.tup [.ref ln, .ref lt]) ∧ H ln = some (.lst vs) ∧ LVR H vs (S.names.map (·.2)) ∧ H lt = some (.lst (ts.map V.ref)) ∧ (H0 ln = none ∧ ¬ N ln) ∧ (H0 lt = none ∧ ¬ N lt) ∧
  Paired (fun (t : Addr) (k : Nat) => ∃ lp, H t = some (.tup [.int (k : Int), .str (S.th k).body.kind, .ref lp, .int (S.th k).body.size]) ∧ ShownAt H lp (S.th k).body.shown ∧ (H0 lp = none ∧ ¬ N lp)) ts ks
theorem PhoX.move {H0 H H' : Hp} {N N2 : Addr → Prop} {Z : List Addr} {p lt : Addr} {S : Sta} {ks : List Nat} (st : Stp Z H H') (tp : Tup H H') (dz : ∀ b ∈ Z, N b ∨ H0 b ≠ none) (fr : ∀ b, N2 b → N b ∨ H b = none) (h : PhoX H0 N H p S ks lt) : PhoX H0 N2 H' p S ks lt := by
  obtain ⟨ln, vs, ts, h1, h2, h3, h4, h5, h6, h7⟩ := h
  have nz : ∀ {b}, (H0 b = none ∧ ¬ N b) → b ∉ Z := fun {b} hb z => (dz b z).elim hb.2 fun y => y hb.1
  have n2 : ∀ {b o}, H b = some o → (H0 b = none ∧ ¬ N b) → (H0 b = none ∧ ¬ N2 b) := fun {b o} e hb => ⟨hb.1, fun y => (fr b y).elim hb.2 fun z => by rw [e] at z; cases z⟩
  refine ⟨ln, vs, ts, tp _ _ h1, st _ _ h2 (nz h5), LVR.mono tp h3, st _ _ h4 (nz h6), n2 h2 h5, n2 h4 h6, Paired.imp (fun _ _ ⟨lp, z1, z2, z3⟩ => ⟨lp, tp _ _ z1, ShownAt.stp st tp (nz z3) z2, ?_⟩) h7⟩
  obtain ⟨us, e, _⟩ := z2
  exact n2 e z3
theorem PhoX.of {H0 Hb H : Hp} {N : Addr → Prop} {p : Addr} {S : Sta} {ks : List Nat} (h : PhoNew Hb H p S ks) (d : ∀ b, H0 b ≠ none → Hb b ≠ none) (dn : ∀ b, N b → Hb b ≠ none) : ∃ lt, PhoX H0 N H p S ks lt ∧ Hb lt = none := by
  obtain ⟨ln, lt, vs, ts, h1, h2, h3, h4, h5, h6, h7⟩ := h
  have c : ∀ {b}, Hb b = none → (H0 b = none ∧ ¬ N b) := fun {b} hb => ⟨Decidable.byContradiction fun z => d b z hb, fun z => dn b z hb⟩
  exact ⟨lt, ⟨ln, vs, ts, h1, h2, h3, h4, c h5, c h6, Paired.imp (fun _ _ ⟨lp, z1, z2, z3⟩ => ⟨lp, z1, z2, c z3⟩) h7⟩, h6⟩
theorem PhoX.at {H0 H : Hp} {N : Addr → Prop} {p lt : Addr} {S : Sta} {ks : List Nat} (h : PhoX H0 N H p S ks lt) : PhoAt H p S ks := by
  obtain ⟨ln, vs, ts, h1, h2, h3, h4, _, _, h7⟩ := h
  exact ⟨ln, lt, vs, ts, h1, h2, h3, h4, Paired.imp (fun _ _ ⟨lp, z1, z2, _⟩ => ⟨lp, z1, z2⟩) h7⟩
theorem PhoX.lt {H0 H : Hp} {N : Addr → Prop} {p lt : Addr} {S : Sta} {ks : List Nat} (h : PhoX H0 N H p S ks lt) : ∃ ln ws, H p = some (.tup [.ref ln, .ref lt]) ∧ H lt = some (.lst ws) ∧ H0 lt = none := by
  obtain ⟨ln, vs, ts, h1, h2, h3, h4, _, h6, h7⟩ := h
  exact ⟨ln, _, h1, h4, h6.1⟩
/-- so often -/
def rep (ds : List Deed) : Nat → List Deed
  | 0 => []
  | n + 1 => rep ds n ++ ds
theorem rep_len (ds : List Deed) : ∀ n, (rep ds n).length = n * ds.length
  | 0 => by rw [Nat.zero_mul]; rfl
  | n + 1 => by
    show (rep ds n ++ ds).length = _
    rw [List.length_append, rep_len ds n, Nat.succ_mul]
theorem rep_ok {ds : List Deed} (h : ∀ d ∈ ds, d.ok) : ∀ n, ∀ d ∈ rep ds n, d.ok
  | 0, _, z => nomatch z
  | n + 1, d, z => (List.mem_append.mp z).elim (rep_ok h n d) (h d)
/-- the photo behind the run i -/
def PhoTurn (H0 : Hp) (N : Addr → Prop) (H : Hp) (q : Addr) (d1 d2 : List Deed) (i : Nat) (lt : Nat → Addr) : Prop := ∃ (S : Sta) (ks : List Nat) (ts : List Told), Runs S0 (d1 ++ rep d2 (i + 1)) ts S ∧ ks.Pairwise (· < ·) ∧ (∀ k, k ∈ ks ↔ ReachA S k) ∧ PhoX H0 (fun b => N b ∨ ∃ j, j < i ∧ b = lt j) H q S ks (lt i)
theorem PhoTurn.move {H0 H H' : Hp} {N N2 : Addr → Prop} {Z : List Addr} {q : Addr} {d1 d2 : List Deed} {i : Nat} {lt : Nat → Addr} (st : Stp Z H H') (tp : Tup H H') (dz : ∀ b ∈ Z, N b ∨ H0 b ≠ none) (fr : ∀ b, N2 b → N b ∨ H b = none) (h : PhoTurn H0 N H q d1 d2 i lt) : PhoTurn H0 N2 H' q d1 d2 i lt := by
  obtain ⟨S, ks, ts, run, srt, mem, x⟩ := h
  exact ⟨S, ks, ts, run, srt, mem, x.move st tp (fun b hb => (dz b hb).imp .inl id) fun b hb => hb.elim (fun z => (fr b z).imp .inl id) fun z => .inl (.inr z)⟩
theorem PhoTurn.congr {H0 H : Hp} {N : Addr → Prop} {q : Addr} {d1 d2 : List Deed} {i : Nat} {lt lt' : Nat → Addr} (e : ∀ j, j ≤ i → lt' j = lt j) (h : PhoTurn H0 N H q d1 d2 i lt) : PhoTurn H0 N H q d1 d2 i lt' := by
  obtain ⟨S, ks, ts, run, srt, mem, x⟩ := h
  refine ⟨S, ks, ts, run, srt, mem, ?_⟩
  rw [e i (Nat.le_refl _)]
  refine x.move (Z := []) (Stp.refl _ _) (Same.tup (Same.refl _)) (fun _ z => nomatch z) fun b hb => .inl (hb.imp id ?_)
  rintro ⟨j, hj, rfl⟩
  exact ⟨j, hj, e j (Nat.le_of_lt hj)⟩
def spGrowing (K : PySem.W.Frag) : Sp := fun vs H Q _ => ∃ (F1 F2 : Addr) (p1 p2 : List Addr) (d1 d2 : List Deed) (many : Nat), vs = [.ref F1, .ref F2, .int (many : Int)] ∧ H F1 = some (.lst (p1.map V.ref)) ∧ H F2 = some (.lst (p2.map V.ref)) ∧ Paired (DeedAt H) p1 d1 ∧ Paired (DeedAt H) p2 d2 ∧ p1.length ≤ 120 ∧ p2.length ≤ 60 ∧ 2 ≤ many ∧ many ≤ 8 ∧
  ∀ (L : Addr) (H' : Hp) (qs : List Addr) (lt : Nat → Addr), Same H H' → H L = none → H' L = some (.lst (qs.map V.ref)) → qs.length = many → (∀ i q, qs[i]? = some q → PhoTurn H (fun b => b = L) H' q d1 d2 i lt) → Q (.ref L) H'
theorem ok_growing (T : Tx w K mg) : DefOk ⟨P, w, K, mg, base⟩ 10 (ga K "growing") ["first", "again", "many"] (spGrowing K) := by
  refine DefOk.mk' (f_growing T) sc_growing (fun _ _ _ _ _ _ us hl => match us, hl with | [_, _, _], _ => rfl) (fun vs H Q E h => ?_) (fun cdv A outer s H vs Q E hr h => ?_)
  · obtain ⟨F1, F2, p1, p2, d1, d2, many, rfl, _⟩ := h
    rfl
  · obtain ⟨F1, F2, p1, p2, d1, d2, many, rfl, h1, h2, dp1, dp2, l1, l2, m2, m8, k⟩ := h
    have hu := hu_of hr
    refine ⟨_, (pss_cons (ps_expr (pe_cg (M := ⟨P, w, K, mg, base⟩) rfl hr rfl (pa_cons (pv 0) pa_nil))) (pss_cons (ps_expr (pe_cg (M := ⟨P, w, K, mg, base⟩) rfl hr rfl (pa_cons (pv 1) pa_nil))) (pss_cons (ps_if (pt_not (pt_val (pe_cg (M := ⟨P, w, K, mg, base⟩) rfl hr rfl (pa_cons (pv 2) (pa_cons (pe_glob (v := .int 2) rfl (i_LEAST_PHOTOS T).choose_spec ⟨_, rfl⟩) (pa_cons (pe_glob (v := .int 8) rfl (i_MOST_PHOTOS T).choose_spec ⟨_, rfl⟩) pa_nil)))))) (pss_one ps_never) pss_nil) (pss_cons (ps_set (i := 3) sc_growing.nd rfl (Or.inl rfl) (pe_mg0 (M := ⟨P, w, K, mg, base⟩) rfl hr rfl)) (pss_cons (ps_expr (pe_cg (M := ⟨P, w, K, mg, base⟩) rfl hr rfl (pa_cons (pv 3) (pa_cons (pv 0) pa_nil)))) (pss_cons (ps_set (i := 4) sc_growing.nd rfl (Or.inl rfl) (pe_lst pa_nil)) (pss_cons (ps_for PassesOwn.never rfl (pi_range1 rfl (z_range T) (pa_cons (pv 2) pa_nil)) (pg_name (i := 5) sc_growing.nd rfl (Or.inl rfl)) (pss_cons (ps_expr (pe_cg (M := ⟨P, w, K, mg, base⟩) rfl hr rfl (pa_cons (pv 3) (pa_cons (pv 1) pa_nil)))) (pss_one (ps_expr (pe_bm PySem.F.plainAttrs_list PySem.F.slot_list_append PySem.F.type_list_append mt_append (pv 4) (pa_cons (pe_md0 (M := ⟨P, w, K, mg, base⟩) rfl hr (pv 3)) pa_nil)))))) (pss_one (ps_ret (pv 4)))))))))), ?_⟩
    have ld1 : p1.length = d1.length := Paired.length dp1
    have ld2 : p2.length = d2.length := Paired.length dp2
    have ok1 : ∀ d ∈ d1, d.ok := fun d hd => by
      obtain ⟨x, _, y⟩ := pair_right dp1 hd
      exact y.1
    have ok2 : ∀ d ∈ d2, d.ok := fun d hd => by
      obtain ⟨x, _, y⟩ := pair_right dp2 hd
      exact y.1
    refine ⟨_, _, _, _, g_check_program T, ok_check_program T, by decide, _, rfl, F1, p1, d1, rfl, SqL.of h1, dp1, l1, fun H1 s1 => ?_⟩
    refine ⟨_, _, _, _, g_check_program T, ok_check_program T, by decide, _, rfl, F2, p2, d2, rfl, SqL.of (s1 _ _ h2), Paired.imp (fun _ _ z => z.same s1) dp2, (by omega), fun H2 s2 => ?_⟩
    have s12 := s1.trans s2
    refine ⟨_, _, _, _, g_is_within T, ok_is_within T, by decide, _, rfl, (many : Int), 2, 8, rfl, ?_⟩
    rw [decide_eq_true (show (2 : Int) ≤ (many : Int) by omega), decide_eq_true (show (many : Int) ≤ 8 by omega)]
    refine ⟨_, rfl, if_f rfl ?_⟩
    refine ⟨_, _, _, _, _, g_Plain T, m_Plain T, ok_Plain_init T, by decide, fun p dp' np ndp nep => ⟨p, dp', rfl, upd_same, ?_⟩⟩
    have sP : Same H2 (upd (upd H2 dp' (.own p)) p (.ins (ga K "Plain") dp' [])) := same_mut (same_new ndp) np
    intro OP H5 stp fr P5
    refine ⟨rfl, ?_⟩
    have s5 : Same H2 H5 := fun b o e => stp b o (sP b o e) fun z => by rw [List.mem_singleton.mp z, np] at e; cases e
    have o5 : ∀ b ∈ OP, H b = none := fun b hb => s12.free (sP.free (fr b hb))
    have s15 := s12.trans s5
    dsimp only [gName]
    refine ⟨_, _, _, _, g_do_all T, ok_do_all T, by decide, _, rfl, _, rfl, p, F1, S0, OP, p1, [], d1, [], rfl, P5, s15 _ _ h1, (fun z => by have := o5 F1 z; rw [h1] at this; cases this), Paired.imp (fun _ _ z => z.same s15) dp1, (fun _ z => nomatch z), .nil, by show 0 + d1.length ≤ 790; omega, fun v H6 S6 OP6 ts6 st6 fr6 P6 run6 => ?_⟩
    have np0 : H p = none := s12.free np
    have s16 : Same H H6 := fun b o e => st6 _ _ (s15 _ _ e) fun z => by rw [o5 b z] at e; cases e
    have o6 : ∀ b ∈ OP6, H b = none := fun b hb => by
      rcases fr6 b hb with z | z
      · exact o5 b z
      · exact s15.free z
    clear s1 s2 s12 sP s5 s15 o5 st6 fr6 stp fr np ndp nep P5
    refine ⟨by show 0 ≤ sizeLine; decide, fun L hL => ?_⟩
    have s7 := s16.trans (same_new (o := .lst []) hL)
    have P7 := P6.same (same_new (o := .lst []) hL)
    have gL : upd H6 L (.lst []) L = some (.lst (([] : List Addr).map V.ref)) := upd_same
    have L0 : H L = none := s16.free hL
    have LO : L ∉ OP6 := fun z => PlainAt_tr P6 L z hL
    have Lp : L ≠ p := fun z => by
      obtain ⟨_, _, _, _, _, _, _, _, e, _⟩ := id P6
      rw [z, e] at hL; cases hL
    generalize upd H6 L (.lst []) = H7 at s7 P7 gL
    clear s16 P6 hL
    refine ⟨_, rfl, many, rfl, by omega, by omega, ?_⟩
    refine for_it walk_range (fun i σ H' => ∃ (S : Sta) (OP : List Addr) (ts : List Told) (qs : List Addr) (lt : Nat → Addr) (x5 : Option V), σ = [some (.ref F1), some (.ref F2), some (.int (many : Int)), some (.ref p), some (.ref L), x5] ∧ Same H H' ∧ PlainAt K H' p S OP ∧ (∀ b ∈ OP, H b = none) ∧ L ∉ OP ∧ H' L = some (.lst (qs.map V.ref)) ∧ qs.length = i ∧ Runs S0 (d1 ++ rep d2 i) ts S ∧
        ∀ j q, qs[j]? = some q → PhoTurn H (fun b => b = L ∨ b ∈ OP) H' q d1 d2 j lt) ⟨S6, OP6, ts6, [], fun _ => 0, _, rfl, s7, P7, o6, LO, gL, rfl, by show Runs S0 (d1 ++ []) ts6 S6; rw [List.append_nil]; exact run6, fun j q z => nomatch z⟩ (fun _ _ _ _ _ => trivial) ?_ ?_
    · clear s7 P7 o6 LO gL run6
      rintro i x σ HX H8 hi ⟨S, OP, ts, qs, lt, x5, rfl, s8, P8, o8, LO, gL, lq, run, ph⟩ ⟨rfl, rfl⟩
      have il : i < 8 := by omega
      have lr : (d1 ++ rep d2 i).length + d2.length ≤ 790 := by
        rw [List.length_append, rep_len]
        have := Nat.mul_le_mul (show i ≤ 7 by omega) (show d2.length ≤ 60 by omega)
        omega
      refine ⟨_, _, _, _, g_do_all T, ok_do_all T, by decide, _, rfl, _, rfl, p, F2, S, OP, p2, d1 ++ rep d2 i, d2, ts, rfl, P8, s8 _ _ h2, (fun z => by have := o8 F2 z; rw [h2] at this; cases this), Paired.imp (fun _ _ z => z.same s8) dp2, fun d hd => (List.mem_append.mp hd).elim (ok1 d) (rep_ok ok2 i d), run, lr, fun v H9 S9 OP9 ts9 st9 fr9 P9 run9 => ?_⟩
      have s9 : Same H H9 := fun b o e => st9 _ _ (s8 _ _ e) fun z => by rw [o8 b z] at e; cases e
      have o9 : ∀ b ∈ OP9, H b = none := fun b hb => by
        rcases fr9 b hb with z | z
        · exact o8 b z
        · exact s8.free z
      have LO9 : L ∉ OP9 := off2' fr9 (by rw [gL]; intro z; cases z) LO
      have gL9 := st9 _ _ gL LO
      have ph9 : ∀ j q, qs[j]? = some q → PhoTurn H (fun b => b = L ∨ b ∈ OP9) H9 q d1 d2 j lt := fun j q hq => (ph j q hq).move st9 (PlainAt_tup P8 st9) (fun b hb => .inl (.inr hb)) fun b hb => hb.elim (fun z => .inl (.inl z)) fun z => (fr9 b z).imp .inr id
      rw [List.append_assoc] at run9
      have run9 : Runs S0 (d1 ++ rep d2 (i + 1)) ts9 S9 := run9
      clear s8 P8 o8 LO gL run ph st9 fr9
      obtain ⟨ok9, m9⟩ := run9.ok ok0 fun d hd => (List.mem_append.mp hd).elim (ok1 d) (rep_ok ok2 (i + 1) d)
      have m9' : S9.made ≤ 790 := by
        have z : S0.made = 0 := rfl
        rw [show rep d2 (i + 1) = rep d2 i ++ d2 from rfl, ← List.append_assoc, List.length_append] at m9
        omega
      obtain ⟨dp2', he, _, _, _, _, _, _, e2, _⟩ := id P9
      refine ⟨_, rfl, .inl ⟨rfl, _, SqL.of gL9⟩, _, rfl, p, _, dp2', _, _, _, _, _, rfl, e2, (by kernel_rfl), c_Plain T, t_Plain_photo T, ok_Plain_photo T, by decide, p, S9, OP9, rfl, P9, ok9, by omega, fun q H10 ks s10 nq srt mem pq => ?_⟩
      refine ⟨L, _, _, rfl, rfl, s10 _ _ gL9, szl (by rw [List.length_map]; omega), ?_⟩
      have tpL : Tup H10 (upd H10 L (.lst (qs.map V.ref ++ [V.ref q]))) := tup_upd (by rw [s10 _ _ gL9]; intro xs z; cases z; rfl)
      have stL : Stp [L] H10 (upd H10 L (.lst (qs.map V.ref ++ [V.ref q]))) := Stp.upd (.inl List.mem_cons_self)
      have al : ∀ b, ((b = L ∨ b ∈ OP9) ∨ ∃ j, j < i ∧ b = lt j) → H9 b ≠ none := by
        rintro b ((rfl | hb) | ⟨j, hj, rfl⟩)
        · rw [gL9]; intro z; cases z
        · exact PlainAt_tr P9 b hb
        · obtain ⟨_, _, _, _, _, _, x⟩ := ph9 j (qs[j]'(by omega)) (List.getElem?_eq_getElem (by omega))
          obtain ⟨_, _, _, z, _⟩ := x.lt
          rw [z]; intro y; cases y
      obtain ⟨ltn, px, ltn0⟩ := PhoX.of (H0 := H) (N := fun b => (b = L ∨ b ∈ OP9) ∨ ∃ j, j < i ∧ b = lt j) (PhoNew.of (Same.refl _) pq) (fun b hb => by
        cases z : H b with
        | none => exact absurd z hb
        | some o => rw [s9 _ _ z]; intro y; cases y) al
      refine ⟨S9, OP9, ts9, qs ++ [q], fun j => if j = i then ltn else lt j, _, rfl, same_mut (s9.trans s10) L0, (P9.same s10 |> fun z => PlainAt_stp z stL tpL (fun b hb y => LO9 (List.mem_singleton.mp y ▸ hb)) fun y => Lp (List.mem_singleton.mp y).symm), o9, LO9, by rw [upd_same, List.map_append]; rfl, by rw [List.length_append, lq]; rfl, run9, fun j q' hq' => ?_⟩
      by_cases ji : j < i
      · rw [List.getElem?_append_left (by omega)] at hq'
        refine ((ph9 j q' hq').move (N2 := fun b => b = L ∨ b ∈ OP9) (Stp.of_same (O := [L]) s10 |>.trans' stL) ((Same.tup s10).trans tpL) (fun b hb => .inl (.inl (List.mem_singleton.mp hb))) fun b hb => .inl hb).congr fun j' hj' => if_neg (by omega)
      · have e : j = i := by
          have := (List.getElem?_eq_some_iff.mp hq').1
          rw [List.length_append] at this
          have : j < qs.length + 1 := this
          omega
        subst e
        rw [List.getElem?_append_right (by omega), lq, Nat.sub_self] at hq'
        cases hq'
        refine ⟨S9, ks, ts9, run9, srt, mem, ?_⟩
        show PhoX H _ _ q S9 ks (if j = j then ltn else lt j)
        rw [if_pos rfl]
        refine (px.move (N2 := fun b => (b = L ∨ b ∈ OP9) ∨ ∃ j', j' < j ∧ b = lt j') stL tpL (fun b hb => .inl (.inl (.inl (List.mem_singleton.mp hb)))) fun b hb => .inl hb).move (Z := []) (Stp.refl _ _) (Same.tup (Same.refl _)) (fun _ z => nomatch z) fun b hb => .inl (hb.imp id ?_)
        rintro ⟨j', hj', rfl⟩
        exact ⟨j', hj', if_neg (by omega)⟩
    clear s7 P7 o6 LO gL run6
    rintro σ H8 ⟨S, OP, ts, qs, lt, x5, rfl, s8, P8, o8, LO, gL, lq, run, ph⟩
    refine ⟨_, rfl, k L H8 qs lt s8 L0 gL (by omega) fun j q hq => (ph j q hq).move (Z := []) (Stp.refl _ _) (Same.tup (Same.refl _)) (fun _ z => nomatch z) fun b hb => .inl (.inl hb)⟩
end
end WK
/-! len(set(xs)) of ints that are all one. -/
namespace WB
open PySem PySem.Spec PySem.Calls PyProof.Rows PySem.W L2 He
theorem met_one {ns : List Int} {c : Int} (h : ∀ n ∈ ns, n = c) : ∀ i, 1 ≤ i → i ≤ ns.length → firstMet (fun j => ns.getD j 0) i = [c] := fun i => by
  have at_ : ∀ j, j < ns.length → ns.getD j 0 = c := fun j hj => by
    rw [List.getD_eq_getElem?_getD, List.getElem?_eq_getElem hj]
    exact h _ (List.getElem_mem hj)
  induction i with
  | zero => intro z; omega
  | succ i ih =>
    intro _ hi
    rw [firstMet_succ, at_ i (by omega)]
    by_cases z : i = 0
    · rw [z, firstMet_zero]; rfl
    · rw [ih (by omega) (by omega)]
      unfold step_dedup
      rw [if_pos (by simp)]
def tLenSetC (K : PySem.W.Frag) (ta : TE) : TE := fun σ H Q => ta σ H fun x H1 => ∃ (l : Addr) (ns : List Int) (c : Int), x = V.ref l ∧ SqL K H1 l (ns.map V.int) ∧ ns.length < 1000 ∧ ns ≠ [] ∧ (∀ n ∈ ns, n = c) ∧ Q (.int 1) H1
theorem pe_lenSetC {X : Cx} {a : Expr} {ta : TE} {p p2 q pos : Pos} (hc : X.calm = true) (gl : Gl X "len") (ml : X.mg "len" = none) (gs : Gl X "set") (ms : X.mg "set" = none) (ea : PE X a ta) (na : starEach [a] X.env = (false, eval a X.env) :: starEach [] X.env := by rfl) :
    PE X (.Call (.Name "len" p) [.Call (.Name "set" p2) [a] [] q] [] pos) (tLenSetC X.K ta) := by
  constructor
  intro pins s σ H Q I h
  have inner : wpAny (model X.prog X.w) X.A (eval a X.env) (fun v s1 => wpAny (model X.prog X.w) X.A (call (.type "set") [v]) (fun u s2 => wpAny (model X.prog X.w) X.A (call (.builtin "len") [u]) (fun y s3 => ∃ x H1, Inv X pins σ H1 s3 ∧ RelV x y ∧ Q x H1) X.xe s2) X.xe s1) X.xe s := thn (ea.run pins s σ H _ I h) fun v s1 ⟨x, H1, I1, r1, q1⟩ => by
    obtain ⟨l, ns, c, rfl, sq, few, ne, same, q2⟩ := q1
    cases r1
    obtain ⟨its, r, pl, _⟩ := I1.list sq
    have n1 : its.toArray.size = ns.length := by rw [List.size_toArray, ← r.length, List.length_map]
    have p1 : 1 ≤ ns.length := List.length_pos_iff.mpr ne
    refine call_set_list (ns := ns) (I1.ok.hd hc) pl.isList (by simpa using r.ints) (by unfold scanBound; omega) fun h2 tk st kp => ?_
    rw [n1, met_one same _ p1 (Nat.le_refl _)] at st
    obtain ⟨o, es, ep, t, ho, hex, hd, _, _, _, hf, hn⟩ := st
    have J : Inv X pins σ H1 { s1 with heap := h2, toks := tk } := I1.kept fun b o e => kp b o (Heap.lt_size e) e
    have e1 : (es.size : Int) = 1 := by rw [hn]; rfl
    exact call_len_set ho hex hd hf (by rw [e1]; decide) ⟨V.int 1, H1, J.tok _, ⟨_, by rw [e1]⟩, q2⟩
  refine Call_ (ld_blt I gl ml PySem.boot_len (PyProof.Rows.callWith_builtin1 (PyProof.Rows.args_cons ?_ rfl) rfl rfl))
  refine Call_ (ld_blt I gs ms PyProof.Rows.boot_set (PyProof.Rows.callWith_type1 (PyProof.Rows.args_cons (wpAny_mono inner (fun v s1 hv => PyProof.Rows.args_nil ?_) fun _ _ e => e) na) na rfl))
  exact wpAny_mono hv (fun u s2 hu => PyProof.Rows.args_nil hu) fun _ _ e => e
theorem rng_valsL {lo n : Nat} {acc : Array Value} (e : acc.size = n) (h2 : ∀ (j : Nat) (v : Value), acc[j]? = some v → ∃ t, v = Value.int ((lo : Int) + (j : Int)) t) : Vals ((List.range' lo n).map fun (i : Nat) => V.int (i : Int)) acc.toList := by
  have key : ∀ (l : List Value) (s : Nat), (∀ (j : Nat) (v : Value), l[j]? = some v → ∃ t, v = Value.int ((s : Int) + (j : Int)) t) → Vals ((List.range' s l.length).map fun (i : Nat) => V.int (i : Int)) l := by
    intro l
    induction l with
    | nil => intro s _; exact .nil
    | cons v r ih =>
      intro s hh
      refine .cons ?_ (ih (s + 1) fun j u hu => ?_)
      · obtain ⟨t, rfl⟩ := hh 0 v rfl
        exact ⟨t, by rw [show (s : Int) + ((0 : Nat) : Int) = s by omega]⟩
      · obtain ⟨t, e⟩ := hh (j + 1) u hu
        exact ⟨t, by rw [e, show (s : Int) + ((j + 1 : Nat) : Int) = ((s + 1 : Nat) : Int) + (j : Int) by omega]⟩
  have := key acc.toList lo fun j (v : Value) hv => h2 j v (by rw [← Array.getElem?_toList]; exact hv)
  rw [Array.length_toList, e] at this
  exact this
theorem call_list_rngL {X : Cx} (hc : X.calm = true) : CallR X (.type "list") (fun xs H Q => ∃ (p : Addr) (lo n : Nat), xs = [.ref p] ∧ H p = some (.rng (lo : Int) ((lo + n : Nat) : Int)) ∧ lo ≤ 1000 ∧ n ≤ 1000 ∧ ∀ l, H l = none → Q (.ref l) (upd H l (.lst ((List.range' lo n).map fun (i : Nat) => V.int (i : Int))))) := by
  intro pins s σ H xs us Q I r hh
  obtain ⟨p, lo, n, rfl, hp, hlo, hn, q⟩ := hh
  obtain ⟨u, rfl, rx⟩ := vals1 r
  cases rx
  obtain ⟨t, v, w, ho⟩ := I.hok p _ hp
  have hs : Builtin.Range.rangeSize (lo : Int) ((lo + n : Nat) : Int) 1 = (n : Int) := by
    rw [rangeSize_one]; split <;> omega
  refine call_list_range (I.ok.hd hc) ho (small_one (by omega) (by omega) (by omega) (by omega)) hs (by omega) fun h' tk acc c kp e hi => ?_
  have rv := rng_valsL (lo := lo) hi.1 fun j v hv => by
    obtain ⟨t, rfl⟩ := hi.2 j v hv
    exact ⟨t, by rw [Int.mul_one]⟩
  have fre : H s.heap.objs.size = none := I.hok.fresh (Nat.le_refl _)
  refine ⟨.ref s.heap.objs.size, upd H s.heap.objs.size (.lst ((List.range' lo n).map fun (i : Nat) => V.int (i : Int))), I.laid (t' := tk) kp (Nat.le_refl _) ⟨Nat.le_trans (show _ ≤ 1000 by rw [List.length_map, List.length_range']; exact hn) (by decide), acc.toList, c, rv, by rw [Array.toArray_toList]; exact e⟩, rfl, q _ fre⟩
end WB
/-! States gone through with closed words: names and bodies. -/
namespace WB
open PySem PySem.Spec PyProof.Rows L2 He
noncomputable def execS (S : Sta) (ds : List Deed) : Sta := ds.foldl (fun S d => (stepF S d).1) S
theorem execS_app (S : Sta) (a b : List Deed) : execS S (a ++ b) = execS (execS S a) b := List.foldl_append ..
theorem execS_cons (S : Sta) (d : Deed) (b : List Deed) : execS S (d :: b) = execS (stepF S d).1 b := rfl
theorem execS_nil (S : Sta) : execS S [] = S := rfl
structure St (S : Sta) (nm : List (Key × V)) (m : Nat) (bd : Nat → Body) : Prop where
  names : S.names = nm
  made : S.made = m
  th : ∀ i, i < m → (S.th i).body = bd i
def lk (nm : List (Key × V)) (x : Str) : V := (valV nm (.inr x)).getD .non
def bdU (bd : Nat → Body) (j : Nat) (b : Body) : Nat → Body := fun i => if i = j then b else bd i
theorem bdU_eq {bd : Nat → Body} {j : Nat} {b : Body} : bdU bd j b j = b := if_pos rfl
theorem bdU_ne {bd : Nat → Body} {i j : Nat} {b : Body} (h : i ≠ j) : bdU bd j b i = bd i := if_neg h
section
variable {S : Sta} {nm : List (Key × V)} {m j : Nat} {bd : Nat → Body} {x y kd : Str} {k : Key}
theorem St.look (h : St S nm m bd) : S.look x = lk nm x := by unfold Sta.look lk; rw [h.names]
theorem St.congr {bd' : Nat → Body} (h : St S nm m bd) (e : ∀ i, i < m → bd i = bd' i) : St S nm m bd' := ⟨h.names, h.made, fun i hi => (h.th i hi).trans (e i hi)⟩
theorem St.make (h : St S nm m bd) : St (stepF S (.make x kd)).1 (putK nm (.inr x) (.ref m)) (m + 1) (bdU bd m (emptyB kd)) := by
  refine ⟨?_, ?_, fun i hi => ?_⟩
  · show putK S.names (.inr x) (.ref S.made) = _
    rw [h.names, h.made]
  · show S.made + 1 = _
    rw [h.made]
  · show (if i = S.made then (⟨emptyB kd, .no, .non⟩ : Th) else S.th i).body = _
    rw [h.made]
    by_cases e : i = m
    · rw [if_pos e, e, bdU_eq]
    · rw [if_neg e, bdU_ne e]
      exact h.th i (by omega)
theorem St.copy (h : St S nm m bd) : St (stepF S (.copy x y)).1 (putK nm (.inr x) (lk nm y)) m bd := by
  refine ⟨?_, h.made, h.th⟩
  show putK S.names (.inr x) (S.look y) = _
  rw [h.names, h.look]
theorem St.drop (h : St S nm m bd) : St (stepF S (.drop x)).1 (putK nm (.inr x) .non) m bd := by
  refine ⟨?_, h.made, h.th⟩
  show putK S.names (.inr x) .non = _
  rw [h.names]
theorem St.take (h : St S nm m bd) (hl : lk nm y = .ref j) (jm : j < m) (hh : (bd j).has k = true) : St (stepF S (.take x y k)).1 (putK nm (.inr x) ((bd j).at k)) m bd := by
  rw [take_yes (h.look.trans hl) (by rw [h.th j jm]; exact hh)]
  refine ⟨?_, h.made, h.th⟩
  show putK S.names (.inr x) ((S.th j).body.at k) = _
  rw [h.names, h.th j jm]
theorem St.put (h : St S nm m bd) (hl : lk nm x = .ref j) (jm : j < m) (hh : (bd j).fits k = true) : St (stepF S (.put x k y)).1 nm m (bdU bd j ((bd j).put k (lk nm y))) := by
  rw [put_yes (h.look.trans hl) (by rw [h.th j jm]; exact hh)]
  refine ⟨h.names, h.made, fun i hi => ?_⟩
  by_cases e : i = j
  · rw [e, bdU_eq]
    show ((S.setTh j _).th j).body = _
    rw [setTh_eq, h.th j jm, h.look]
  · rw [bdU_ne e]
    show ((S.setTh j _).th i).body = _
    rw [setTh_ne e]
    exact h.th i hi
end
def nmL (p q r s t u v w : V) : List (Key × V) := [(.inr "p", p), (.inr "q", q), (.inr "r", r), (.inr "s", s), (.inr "t", t), (.inr "u", u), (.inr "v", v), (.inr "w", w)]
section
variable {p q r s t u v w x : V}
theorem nm_p : putK (nmL p q r s t u v w) (.inr "p") x = nmL x q r s t u v w := by kernel_rfl
theorem nm_q : putK (nmL p q r s t u v w) (.inr "q") x = nmL p x r s t u v w := by kernel_rfl
theorem nm_s : putK (nmL p q r s t u v w) (.inr "s") x = nmL p q r x t u v w := by kernel_rfl
theorem nm_t : putK (nmL p q r s t u v w) (.inr "t") x = nmL p q r s x u v w := by kernel_rfl
theorem nm_u : putK (nmL p q r s t u v w) (.inr "u") x = nmL p q r s t x v w := by kernel_rfl
theorem nm_v : putK (nmL p q r s t u v w) (.inr "v") x = nmL p q r s t u x w := by kernel_rfl
theorem nm_w : putK (nmL p q r s t u v w) (.inr "w") x = nmL p q r s t u v x := by kernel_rfl
theorem lk_p : lk (nmL p q r s t u v w) "p" = p := by kernel_rfl
theorem lk_q : lk (nmL p q r s t u v w) "q" = q := by kernel_rfl
theorem lk_s : lk (nmL p q r s t u v w) "s" = s := by kernel_rfl
theorem lk_t : lk (nmL p q r s t u v w) "t" = t := by kernel_rfl
theorem lk_u : lk (nmL p q r s t u v w) "u" = u := by kernel_rfl
theorem lk_v : lk (nmL p q r s t u v w) "v" = v := by kernel_rfl
theorem lk_w : lk (nmL p q r s t u v w) "w" = w := by kernel_rfl
end
/-! ### bodies -/
def recB (a b d : V) : Body := .dic true [(.inr "a", a), (.inr "b", b), (.inr "c", .non), (.inr "d", d)]
def kdS : Nat → Str | 0 => "record" | 1 => "row" | _ => "book"
def ptK : Nat → Key | 0 => .inr "b" | 1 => .inl 0 | _ => .inl 7
def bdC : Nat → V → Body | 0, v => recB .non v .non | 1, v => .row [v] | _, v => .dic false [(.inl 7, v)]
def kd2 : Nat → Str | 0 => "record" | _ => "book"
def pt2 : Nat → Key | 0 => .inr "a" | _ => .inl 4
def bdN : Nat → V → Body | 0, v => recB v .non .non | _, v => .dic false [(.inl 4, v)]
theorem em_rec : emptyB "record" = recB .non .non .non := by kernel_rfl
theorem em_row : emptyB "row" = .row [] := by kernel_rfl
theorem rec_a {a b d x : V} : (recB a b d).put (.inr "a") x = recB x b d := by kernel_rfl
theorem rec_d {a b d x : V} : (recB a b d).put (.inr "d") x = recB a b x := by kernel_rfl
theorem rec_fa {a b d : V} : (recB a b d).fits (.inr "a") = true := by kernel_rfl
theorem rec_fd {a b d : V} : (recB a b d).fits (.inr "d") = true := by kernel_rfl
theorem rec_ha {a b d : V} : (recB a b d).has (.inr "a") = true := by kernel_rfl
theorem rec_at {a b d : V} : (recB a b d).at (.inr "a") = a := by kernel_rfl
theorem c_fits : ∀ j, (emptyB (kdS j)).fits (ptK j) = true
  | 0 => by kernel_rfl
  | 1 => by kernel_rfl
  | n + 2 => by kernel_rfl
theorem c_put (x : V) : ∀ j, (emptyB (kdS j)).put (ptK j) x = bdC j x
  | 0 => by kernel_rfl
  | 1 => by kernel_rfl
  | n + 2 => by kernel_rfl
theorem c_has (x : V) : ∀ j, (bdC j x).has (ptK j) = true
  | 0 => by kernel_rfl
  | 1 => by kernel_rfl
  | n + 2 => by kernel_rfl
theorem c_at (x : V) : ∀ j, (bdC j x).at (ptK j) = x
  | 0 => by kernel_rfl
  | 1 => by kernel_rfl
  | n + 2 => by kernel_rfl
theorem n_fits : ∀ e, (emptyB (kd2 e)).fits (pt2 e) = true
  | 0 => by kernel_rfl
  | n + 1 => by kernel_rfl
theorem n_put (x : V) : ∀ e, (emptyB (kd2 e)).put (pt2 e) x = bdN e x
  | 0 => by kernel_rfl
  | n + 1 => by kernel_rfl
/-- what one value holds -/
def rf : V → List Nat | .ref k => [k] | _ => []
theorem rf_app (xs : List V) : refs xs = xs.flatMap rf := by
  induction xs with
  | nil => rfl
  | cons x r ih =>
    rw [List.flatMap_cons, ← ih]
    cases x <;> rfl
theorem rec_held {a b d : V} : (recB a b d).held = rf a ++ (rf b ++ rf d) := by
  show refs [a, b, .non, d] = _
  rw [rf_app]
  show rf a ++ (rf b ++ (rf .non ++ (rf d ++ []))) = _
  rw [List.append_nil]; rfl
theorem row_held (x : V) : (Body.row [x]).held = rf x := by
  show refs [x] = _
  rw [rf_app]
  show rf x ++ [] = _
  rw [List.append_nil]
theorem book_held (i : Int) (x : V) : (Body.dic false [(.inl i, x)]).held = rf x := by
  have e : (Body.dic false [(.inl i, x)]).shown = [(.inl i, x)] := by
    show ((srtI [i]).map fun j => ((.inl j : Key), (valV [((.inl i : Key), x)] (.inl j)).getD .non)) = _
    have : srtI [i] = [i] := by unfold srtI; exact List.mergeSort_singleton ..
    rw [this]
    show [((.inl i : Key), (valV [((.inl i : Key), x)] (.inl i)).getD .non)] = _
    have : valV [((.inl i : Key), x)] (.inl i) = some x := valV_pos rfl
    rw [this]; rfl
  show refs ((Body.dic false [(.inl i, x)]).shown.map (·.2)) = _
  rw [e, rf_app]
  show rf x ++ [] = _
  rw [List.append_nil]
theorem c_held (x : V) : ∀ j, (bdC j x).held = rf x
  | 0 => by
    show (recB .non x .non).held = _
    rw [rec_held]
    show [] ++ (rf x ++ []) = _
    rw [List.append_nil]; rfl
  | 1 => row_held x
  | n + 2 => book_held 7 x
theorem n_held (x : V) : ∀ e, (bdN e x).held = rf x
  | 0 => by
    show (recB x .non .non).held = _
    rw [rec_held]
    show rf x ++ ([] ++ []) = _
    rw [List.append_nil, List.append_nil]
  | n + 1 => book_held 4 x
def szN : Nat → Int | 0 => 5 | _ => 3
theorem n_size (x : V) : ∀ e, (bdN e x).size = szN e
  | 0 => rfl
  | n + 1 => rfl
def szC : Nat → Int | 0 => 5 | 1 => 2 | _ => 3
theorem c_size (x : V) : ∀ j, (bdC j x).size = szC j
  | 0 => rfl
  | 1 => rfl
  | n + 2 => rfl
end WB
/-! The law's programs, and the states behind them. -/
namespace WB
open PySem PySem.Spec PyProof.Rows L2 He
def chainD (ks : List Nat) : List Deed := ks.flatMap fun j => [.make "q" (kdS j), .put "q" (ptK j) "p", .copy "p" "q"]
def firstD (ks : List Nat) : List Deed := [.make "w" "record", .make "p" "record"] ++ chainD ks ++ [.make "v" "row", .put "w" (.inr "d") "v", .drop "q"]
def downD (ks : List Nat) : List Deed := .copy "s" "p" :: ks.reverse.map fun j => .take "s" "s" (ptK j)
def endD : List Deed := [.drop "s", .drop "t", .drop "u"]
def againD (ks : List Nat) (e : Nat) : List Deed := downD ks ++ [.make "t" (kd2 e), .take "u" "s" (.inr "a"), .put "t" (pt2 e) "u", .put "s" (.inr "a") "t"] ++ endD
def otherD (ks : List Nat) (e : Nat) : List Deed := downD ks ++ [.make "t" (kd2 e), .take "u" "s" (.inr "a"), .put "s" (.inr "a") "t"] ++ endD
def goD (ks : List Nat) : List Deed := downD ks ++ [.drop "s"]
def nmA (L : Nat) (s t u : V) : List (Key × V) := nmL (.ref (L + 1)) .non .non s t u (.ref (L + 2)) (.ref 0)
theorem chain_st : ∀ (ks : List Nat) {S : Sta} {n : Nat} {bd : Nat → Body} {q w : V}, St S (nmL (.ref n) q .non .non .non .non .non w) (n + 1) bd →
    ∃ q', St (execS S (chainD ks)) (nmL (.ref (n + ks.length)) q' .non .non .non .non .non w) (n + ks.length + 1) (fun i => if i ≤ n then bd i else bdC (ks.getD (i - (n + 1)) 0) (.ref (i - 1)))
  | [], S, n, bd, q, w, h => ⟨q, h.congr fun i hi => by rw [if_pos (by omega)]⟩
  | j :: r, S, n, bd, q, w, h => by
    have h1 := h.make (x := "q") (kd := kdS j)
    rw [nm_q] at h1
    have h2 := h1.put (x := "q") (y := "p") (k := ptK j) (j := n + 1) lk_q (by omega) (by rw [bdU_eq]; exact c_fits j)
    rw [lk_p, bdU_eq, c_put] at h2
    have h3 := h2.copy (x := "p") (y := "q")
    rw [lk_q, nm_p] at h3
    obtain ⟨q', h4⟩ := chain_st r (n := n + 1) h3
    have e : n + 1 + r.length = n + (j :: r).length := by rw [List.length_cons]; omega
    rw [e] at h4
    refine ⟨q', St.congr (S := execS S (chainD (j :: r))) h4 fun i hi => ?_⟩
    by_cases a : i ≤ n
    · rw [if_pos a, if_pos (by omega), bdU_ne (by omega), bdU_ne (by omega)]
    · rw [if_neg a]
      by_cases b : i = n + 1
      · rw [if_pos (by omega), b, bdU_eq]
        show bdC j (.ref n) = bdC ((j :: r).getD (n + 1 - (n + 1)) 0) (.ref (n + 1 - 1))
        rw [Nat.sub_self, Nat.add_sub_cancel]; rfl
      · rw [if_neg (by omega)]
        have e2 : i - (n + 1) = (i - (n + 1 + 1)) + 1 := by omega
        rw [e2]; rfl
def bdF (ks : List Nat) (a : V) : Nat → Body := fun i => if i = 0 then recB .non .non (.ref (ks.length + 2)) else if i = 1 then recB a .non .non else if i ≤ ks.length + 1 then bdC (ks.getD (i - 2) 0) (.ref (i - 1)) else .row []
theorem first_st (ks : List Nat) {S : Sta} {bd : Nat → Body} (h : St S (nmL .non .non .non .non .non .non .non .non) 0 bd) : St (execS S (firstD ks)) (nmA ks.length .non .non .non) (ks.length + 3) (bdF ks .non) := by
  have h1 := h.make (x := "w") (kd := "record")
  rw [nm_w] at h1
  have h2 := h1.make (x := "p") (kd := "record")
  rw [nm_p, em_rec] at h2
  obtain ⟨q', h3⟩ := chain_st ks (n := 1) h2
  have h4 := h3.make (x := "v") (kd := "row")
  rw [nm_v, em_row] at h4
  have h5 := h4.put (x := "w") (y := "v") (k := .inr "d") (j := 0) lk_w (by omega) (by rw [bdU_ne (by omega), if_pos (by omega), bdU_ne (by omega), bdU_eq]; exact rec_fd)
  rw [lk_v, bdU_ne (by omega), if_pos (by omega), bdU_ne (by omega), bdU_eq, rec_d] at h5
  have h6 := h5.drop (x := "q")
  rw [nm_q] at h6
  have e1 : 1 + ks.length + 1 + 1 = ks.length + 3 := by omega
  have e2 : 1 + ks.length + 1 = ks.length + 2 := by omega
  have e3 : 1 + ks.length = ks.length + 1 := by omega
  rw [e1, e2, e3] at h6
  have eS : execS S (firstD ks) = (stepF (stepF (stepF (execS (stepF (stepF S (.make "w" "record")).1 (.make "p" "record")).1 (chainD ks)) (.make "v" "row")).1 (.put "w" (.inr "d") "v")).1 (.drop "q")).1 := by
    unfold firstD
    rw [execS_app, execS_app]; rfl
  rw [eS]
  refine h6.congr fun i hi => ?_
  unfold bdF
  by_cases a0 : i = 0
  · rw [a0, bdU_eq, if_pos rfl]
  rw [bdU_ne a0, if_neg a0]
  by_cases a1 : i = 1
  · rw [a1, bdU_ne (by omega), if_pos (by omega), if_pos rfl, bdU_eq]
  rw [if_neg a1]
  by_cases a2 : i ≤ ks.length + 1
  · rw [if_pos a2, bdU_ne (by omega), if_neg (by omega)]
  · rw [if_neg a2, show i = ks.length + 2 by omega, bdU_eq]
/-- the chain of things, down to 1 -/
def ChainB (ks : List Nat) (bd : Nat → Body) : Prop := ∀ i, 2 ≤ i → i ≤ ks.length + 1 → bd i = bdC (ks.getD (i - 2) 0) (.ref (i - 1))
theorem takes_st {ks : List Nat} {bd : Nat → Body} {m : Nat} (c : ChainB ks bd) (hm : ks.length + 1 < m) : ∀ (j : Nat), j ≤ ks.length → ∀ {S : Sta} {p q r t u v w : V}, St S (nmL p q r (.ref (j + 1)) t u v w) m bd →
    St (execS S ((ks.take j).reverse.map fun j => .take "s" "s" (ptK j))) (nmL p q r (.ref 1) t u v w) m bd
  | 0, _, S, p, q, r, t, u, v, w, h => h
  | j + 1, hj, S, p, q, r, t, u, v, w, h => by
    obtain ⟨a, ha⟩ : ∃ a, ks[j]? = some a := ⟨_, List.getElem?_eq_getElem (by omega)⟩
    have eg : ks.getD j 0 = a := by rw [List.getD_eq_getElem?_getD, ha]; rfl
    have eb : bd (j + 1 + 1) = bdC a (.ref (j + 1)) := by
      rw [c (j + 1 + 1) (by omega) (by omega), show j + 1 + 1 - 2 = j by omega, eg]; rfl
    have h1 := h.take (x := "s") (y := "s") (k := ptK a) (j := j + 1 + 1) lk_s (by omega) (by rw [eb]; exact c_has _ a)
    rw [eb, c_at, nm_s] at h1
    have h2 := takes_st c hm j (by omega) h1
    rw [List.take_add_one, ha]
    show St (execS S (((ks.take j ++ [a]).reverse).map _)) _ _ _
    rw [List.reverse_append]
    exact h2
theorem down_st {ks : List Nat} {bd : Nat → Body} {m : Nat} (c : ChainB ks bd) (hm : ks.length + 1 < m) {S : Sta} {s t u : V} (h : St S (nmA ks.length s t u) m bd) : St (execS S (downD ks)) (nmA ks.length (.ref 1) t u) m bd := by
  have h1 := St.copy (x := "s") (y := "p") (show St S (nmL _ _ _ _ _ _ _ _) m bd from h)
  rw [lk_p, nm_s] at h1
  have h2 := takes_st c hm ks.length (Nat.le_refl _) h1
  rw [List.take_length] at h2
  exact h2
section
variable {ks : List Nat} {bd : Nat → Body} {m e : Nat} {S : Sta} {x : V}
theorem again_st (c : ChainB ks bd) (hm : ks.length + 1 < m) (b1 : bd 1 = recB x .non .non) (h : St S (nmA ks.length .non .non .non) m bd) : St (execS S (againD ks e)) (nmA ks.length .non .non .non) (m + 1) (bdU (bdU bd m (bdN e x)) 1 (recB (.ref m) .non .non)) := by
  have h1 := down_st c hm h
  have h2 := St.make (x := "t") (kd := kd2 e) (show St _ (nmL _ _ _ _ _ _ _ _) m bd from h1)
  rw [nm_t] at h2
  have h3 := h2.take (x := "u") (y := "s") (k := .inr "a") (j := 1) lk_s (by omega) (by rw [bdU_ne (by omega), b1]; exact rec_ha)
  rw [bdU_ne (by omega), b1, rec_at, nm_u] at h3
  have h4 := h3.put (x := "t") (y := "u") (k := pt2 e) (j := m) lk_t (by omega) (by rw [bdU_eq]; exact n_fits e)
  rw [lk_u, bdU_eq, n_put] at h4
  have h5 := h4.put (x := "s") (y := "t") (k := .inr "a") (j := 1) lk_s (by omega) (by rw [bdU_ne (by omega), bdU_ne (by omega), b1]; exact rec_fa)
  rw [lk_t, bdU_ne (by omega), bdU_ne (by omega), b1, rec_a] at h5
  have h6 := h5.drop (x := "s")
  rw [nm_s] at h6
  have h7 := h6.drop (x := "t")
  rw [nm_t] at h7
  have h8 := h7.drop (x := "u")
  rw [nm_u] at h8
  unfold againD endD
  rw [execS_app, execS_app]
  refine St.congr h8 fun i hi => ?_
  by_cases a : i = 1
  · rw [a, bdU_eq, bdU_eq]
  · rw [bdU_ne a, bdU_ne a]
    by_cases b : i = m
    · rw [b, bdU_eq, bdU_eq]
    · rw [bdU_ne b, bdU_ne b, bdU_ne b]
theorem other_st (c : ChainB ks bd) (hm : ks.length + 1 < m) (b1 : bd 1 = recB x .non .non) (h : St S (nmA ks.length .non .non .non) m bd) : St (execS S (otherD ks e)) (nmA ks.length .non .non .non) (m + 1) (bdU (bdU bd m (emptyB (kd2 e))) 1 (recB (.ref m) .non .non)) := by
  have h1 := down_st c hm h
  have h2 := St.make (x := "t") (kd := kd2 e) (show St _ (nmL _ _ _ _ _ _ _ _) m bd from h1)
  rw [nm_t] at h2
  have h3 := h2.take (x := "u") (y := "s") (k := .inr "a") (j := 1) lk_s (by omega) (by rw [bdU_ne (by omega), b1]; exact rec_ha)
  rw [bdU_ne (by omega), b1, rec_at, nm_u] at h3
  have h5 := h3.put (x := "s") (y := "t") (k := .inr "a") (j := 1) lk_s (by omega) (by rw [bdU_ne (by omega), b1]; exact rec_fa)
  rw [lk_t, bdU_ne (by omega), b1, rec_a] at h5
  have h6 := h5.drop (x := "s")
  rw [nm_s] at h6
  have h7 := h6.drop (x := "t")
  rw [nm_t] at h7
  have h8 := h7.drop (x := "u")
  rw [nm_u] at h8
  unfold otherD endD
  rw [execS_app, execS_app]
  exact h8
theorem go_st (c : ChainB ks bd) (hm : ks.length + 1 < m) (h : St S (nmA ks.length .non .non .non) m bd) : St (execS S (goD ks)) (nmA ks.length .non .non .non) m bd := by
  have h1 := down_st c hm h
  have h2 := St.drop (x := "s") (show St _ (nmL _ _ _ _ _ _ _ _) m bd from h1)
  rw [nm_s] at h2
  unfold goD
  rw [execS_app]
  exact h2
end
def repD (ds : List Deed) : Nat → List Deed
  | 0 => []
  | n + 1 => repD ds n ++ ds
/-- behind n rounds: thing 1's part, and what each new thing is -/
def bdM (ks : List Nat) (f : V → Body) (n : Nat) : Nat → Body := fun i => if i ≤ ks.length + 2 then bdF ks (if n = 0 then .non else .ref (ks.length + 2 + n)) i else f (if i = ks.length + 3 then .non else .ref (i - 1))
theorem bdF_1 {ks : List Nat} {a : V} : bdF ks a 1 = recB a .non .non := by unfold bdF; rw [if_neg (by decide), if_pos rfl]
theorem bdM_chain {ks : List Nat} {f : V → Body} {n : Nat} : ChainB ks (bdM ks f n) := fun i h1 h2 => by
  unfold bdM bdF
  rw [if_pos (by omega), if_neg (by omega), if_neg (by omega), if_pos h2]
theorem bdM_1 {ks : List Nat} {f : V → Body} {n : Nat} : bdM ks f n 1 = recB (if n = 0 then .non else .ref (ks.length + 2 + n)) .non .non := by
  unfold bdM
  rw [if_pos (by omega), bdF_1]
theorem bdM_next {ks : List Nat} {f : V → Body} {n i : Nat} (hi : i < ks.length + 3 + n + 1) : bdU (bdU (bdM ks f n) (ks.length + 3 + n) (f (if n = 0 then .non else .ref (ks.length + 2 + n)))) 1 (recB (.ref (ks.length + 3 + n)) .non .non) i = bdM ks f (n + 1) i := by
  by_cases a : i = 1
  · rw [a, bdU_eq, bdM_1, if_neg (by omega), show ks.length + 3 + n = ks.length + 2 + (n + 1) by omega]
  · rw [bdU_ne a]
    by_cases b : i = ks.length + 3 + n
    · rw [b, bdU_eq]
      have e1 : bdM ks f (n + 1) (ks.length + 3 + n) = f (if ks.length + 3 + n = ks.length + 3 then .non else .ref (ks.length + 3 + n - 1)) := by
        unfold bdM
        exact if_neg (by omega)
      rw [e1]
      by_cases c : n = 0
      · rw [if_pos c, if_pos (by omega)]
      · rw [if_neg c, if_neg (by omega), show ks.length + 3 + n - 1 = ks.length + 2 + n by omega]
    · rw [bdU_ne b]
      unfold bdM
      by_cases c : i ≤ ks.length + 2
      · rw [if_pos c, if_pos c]
        unfold bdF
        by_cases d : i = 0
        · rw [if_pos d, if_pos d]
        · rw [if_neg d, if_neg d, if_neg a, if_neg a]
      · rw [if_neg c, if_neg c]
theorem main_st (ks : List Nat) (e : Nat) {S : Sta} {bd : Nat → Body} (h : St S (nmL .non .non .non .non .non .non .non .non) 0 bd) : ∀ n, St (execS S (firstD ks ++ repD (againD ks e) n)) (nmA ks.length .non .non .non) (ks.length + 3 + n) (bdM ks (bdN e) n)
  | 0 => by
    rw [show repD (againD ks e) 0 = [] from rfl, List.append_nil]
    exact (first_st ks h).congr fun i hi => by unfold bdM; rw [if_pos (by omega)]; rfl
  | n + 1 => by
    have h1 := again_st (e := e) bdM_chain (by omega) bdM_1 (main_st ks e h n)
    rw [show repD (againD ks e) (n + 1) = repD (againD ks e) n ++ againD ks e from rfl, ← List.append_assoc, execS_app]
    exact h1.congr fun i hi => bdM_next (by omega)
theorem oth_st (ks : List Nat) (e : Nat) {S : Sta} {bd : Nat → Body} (h : St S (nmL .non .non .non .non .non .non .non .non) 0 bd) : ∀ n, St (execS S (firstD ks ++ repD (otherD ks e) n)) (nmA ks.length .non .non .non) (ks.length + 3 + n) (bdM ks (fun _ => emptyB (kd2 e)) n)
  | 0 => by
    rw [show repD (otherD ks e) 0 = [] from rfl, List.append_nil]
    exact (first_st ks h).congr fun i hi => by unfold bdM; rw [if_pos (by omega)]; rfl
  | n + 1 => by
    have h1 := other_st (e := e) bdM_chain (by omega) bdM_1 (oth_st ks e h n)
    rw [show repD (otherD ks e) (n + 1) = repD (otherD ks e) n ++ otherD ks e from rfl, ← List.append_assoc, execS_app]
    exact h1.congr fun i hi => bdM_next (f := fun _ => emptyB (kd2 e)) (by omega)
theorem bye_st (ks : List Nat) {S : Sta} {bd : Nat → Body} (h : St S (nmL .non .non .non .non .non .non .non .non) 0 bd) : ∀ n, St (execS S (firstD ks ++ repD (goD ks) n)) (nmA ks.length .non .non .non) (ks.length + 3) (bdF ks .non)
  | 0 => by
    rw [show repD (goD ks) 0 = [] from rfl, List.append_nil]
    exact first_st ks h
  | n + 1 => by
    have c : ChainB ks (bdF ks .non) := fun i h1 h2 => by
      unfold bdF
      rw [if_neg (by omega), if_neg (by omega), if_pos h2]
    rw [show repD (goD ks) (n + 1) = repD (goD ks) n ++ goD ks from rfl, ← List.append_assoc, execS_app]
    exact go_st c (by omega) (bye_st ks h n)
end WB
namespace WK
open PySem PySem.Spec PyProof.Rows L2 He WB PySem.W
section
/-! A row of things held one by another: who keeps whom. -/
/-- roots 0, L+1 and L+2; the chain L+1 .. 1; behind 1 the things hi-1 .. lo -/
structure Gr (S : Sta) (L lo hi : Nat) : Prop where
  nums : numsS S = [L + 1, L + 2, 0]
  h0 : heldS S 0 = [L + 2]
  hv : heldS S (L + 2) = []
  hc : ∀ a, 2 ≤ a → a ≤ L + 1 → heldS S a = [a - 1]
  h1 : heldS S 1 = if lo < hi then [hi - 1] else []
  hn : ∀ a, lo < a → a < hi → heldS S a = [a - 1]
  hlo : lo < hi → heldS S lo = []
  l1 : L + 3 ≤ lo
  l2 : lo ≤ hi
/-- in the photo -/
def inG (L lo hi k : Nat) : Prop := k < L + 3 ∨ (lo ≤ k ∧ k < hi)
/-- c keeps j -/
def qK (L c j : Nat) : Prop := if c = 0 ∨ c = L + 2 then j = c else if c ≤ L + 1 then (1 ≤ j ∧ j ≤ c) ∨ L + 3 ≤ j else L + 3 ≤ j ∧ j ≤ c
instance (L c j : Nat) : Decidable (qK L c j) := by unfold qK; infer_instance
section
variable {S : Sta} {L lo hi : Nat}
theorem Gr.next (g : Gr S L lo hi) {a b : Nat} (ha : inG L lo hi a) (hb : b ∈ heldS S a) : (a = 0 ∧ b = L + 2) ∨ (2 ≤ a ∧ a ≤ L + 1 ∧ b = a - 1) ∨ (a = 1 ∧ lo < hi ∧ b = hi - 1) ∨ (lo < a ∧ a < hi ∧ b = a - 1) := by
  by_cases z0 : a = 0
  · rw [z0, g.h0] at hb
    exact .inl ⟨z0, List.mem_singleton.mp hb⟩
  by_cases z1 : a = 1
  · rw [z1, g.h1] at hb
    by_cases z : lo < hi
    · rw [if_pos z] at hb
      exact .inr (.inr (.inl ⟨z1, z, List.mem_singleton.mp hb⟩))
    · rw [if_neg z] at hb; cases hb
  by_cases z2 : a ≤ L + 1
  · rw [g.hc a (by omega) z2] at hb
    exact .inr (.inl ⟨by omega, z2, List.mem_singleton.mp hb⟩)
  by_cases z3 : a = L + 2
  · rw [z3, g.hv] at hb; cases hb
  have hl : lo ≤ a ∧ a < hi := ha.resolve_left (by omega)
  by_cases z4 : a = lo
  · rw [z4, g.hlo (by omega)] at hb; cases hb
  · rw [g.hn a (by omega) hl.2] at hb
    exact .inr (.inr (.inr ⟨by omega, hl.2, List.mem_singleton.mp hb⟩))
theorem Gr.inG_next (g : Gr S L lo hi) {a b : Nat} (ha : inG L lo hi a) (hb : b ∈ heldS S a) : inG L lo hi b := by
  have l1 := g.l1; have l2 := g.l2
  unfold inG
  rcases g.next ha hb with ⟨_, h⟩ | ⟨_, _, h⟩ | ⟨_, _, h⟩ | ⟨_, _, h⟩ <;> omega
theorem Gr.root (g : Gr S L lo hi) {k : Nat} : k ∈ numsS S ↔ k = L + 1 ∨ k = L + 2 ∨ k = 0 := by
  rw [g.nums]
  simp only [List.mem_cons, List.not_mem_nil, or_false]
/-- what may be come to without c -/
theorem Gr.come (g : Gr S L lo hi) {am : Nat → Prop} (ha : ∀ j, ¬ am j → am (L + 2) ∧ am 0 ∨ j = L + 2 ∨ j = 0) : True := trivial
theorem Gr.chain (g : Gr S L lo hi) {am : Nat → Prop} {c : Nat} (hc : c ≤ L + 1) (h1 : 1 ≤ c) (ha : ∀ j, c ≤ j → j ≤ L + 1 → am j) : ∀ t, c + t = L + 1 → ∀ j, c ≤ j → j ≤ L + 1 → Rch (heldS S) am (numsS S) j := by
  intro t ht j hj1 hj2
  have key : ∀ u, ∀ j, j + u = L + 1 → c ≤ j → Rch (heldS S) am (numsS S) j := by
    intro u
    induction u with
    | zero =>
      intro j hj hcj
      exact .start (g.root.mpr (.inl (by omega))) (ha j hcj (by omega))
    | succ u ih =>
      intro j hj hcj
      refine .step (ih (j + 1) (by omega) (by omega)) ?_ (ha j hcj (by omega))
      rw [g.hc (j + 1) (by omega) (by omega)]
      exact List.mem_singleton.mpr (by omega)
  exact key (L + 1 - j) j (by omega) hj1
theorem Gr.news (g : Gr S L lo hi) {am : Nat → Prop} {c : Nat} (h1 : Rch (heldS S) am (numsS S) 1) (hc : lo ≤ c) (ha : ∀ j, c ≤ j → j < hi → am j) : ∀ j, c ≤ j → j < hi → Rch (heldS S) am (numsS S) j := by
  have key : ∀ u, ∀ j, j + u + 1 = hi → c ≤ j → Rch (heldS S) am (numsS S) j := by
    intro u
    induction u with
    | zero =>
      intro j hj hcj
      refine .step h1 ?_ (ha j hcj (by omega))
      rw [g.h1, if_pos (by omega)]
      exact List.mem_singleton.mpr (by omega)
    | succ u ih =>
      intro j hj hcj
      refine .step (ih (j + 1) (by omega) (by omega)) ?_ (ha j hcj (by omega))
      rw [g.hn (j + 1) (by omega) (by omega)]
      exact List.mem_singleton.mpr (by omega)
  intro j h2 h3
  exact key (hi - 1 - j) j (by omega) h2
theorem Gr.reach (g : Gr S L lo hi) (k : Nat) : ReachA S k ↔ inG L lo hi k := by
  have l1 := g.l1; have l2 := g.l2
  constructor
  · intro r
    induction r with
    | start h _ =>
      unfold inG
      rcases g.root.mp h with z | z | z <;> omega
    | step _ hk _ ih => exact g.inG_next ih hk
  · intro h
    have ch := g.chain (am := fun _ => True) (c := 1) (by omega) (by omega) (fun _ _ _ => trivial) L (by omega)
    by_cases z0 : k = 0
    · exact .start (g.root.mpr (.inr (.inr z0))) trivial
    by_cases z1 : k ≤ L + 1
    · exact ch k (by omega) z1
    by_cases z2 : k = L + 2
    · exact .start (g.root.mpr (.inr (.inl z2))) trivial
    have hl := h.resolve_left (by omega)
    exact g.news (c := lo) (ch 1 (by omega) (by omega)) (Nat.le_refl _) (fun _ _ _ => trivial) k hl.1 hl.2
theorem Gr.wout (g : Gr S L lo hi) {c j : Nat} (hc : inG L lo hi c) (hj : inG L lo hi j) : ¬ Wout S c j ↔ qK L c j := by
  have l1 := g.l1; have l2 := g.l2
  have to : Wout S c j → inG L lo hi j ∧ ¬ qK L c j := by
    intro r
    clear hj
    induction r with
    | @start k h ha =>
      have hk : inG L lo hi k := by unfold inG; rcases g.root.mp h with z | z | z <;> omega
      refine ⟨hk, ?_⟩
      unfold inG at hc
      unfold qK
      rcases g.root.mp h with z | z | z <;> (repeat' split) <;> omega
    | @step a b _ hk ha ih =>
      obtain ⟨h1, h2⟩ := ih
      refine ⟨g.inG_next h1 hk, ?_⟩
      unfold inG at hc h1
      unfold qK at h2 ⊢
      rcases g.next (by unfold inG; exact h1) hk with ⟨_, h⟩ | ⟨_, _, h⟩ | ⟨_, _, h⟩ | ⟨_, _, h⟩ <;> (repeat' split at h2) <;> (try split) <;> (try split) <;> omega
  constructor
  · intro nw
    by_cases q : qK L c j
    · exact q
    · exfalso
      apply nw
      unfold inG at hc hj
      by_cases z0 : j = 0
      · refine .start (g.root.mpr (.inr (.inr z0))) fun e => ?_
        unfold qK at q
        rw [if_pos (by omega)] at q
        exact q (by omega)
      by_cases z2 : j = L + 2
      · refine .start (g.root.mpr (.inr (.inl z2))) fun e => ?_
        unfold qK at q
        rw [if_pos (by omega)] at q
        exact q (by omega)
      have ne : j ≠ c := fun e => by
        unfold qK at q
        (repeat' split at q) <;> omega
      by_cases z1 : j ≤ L + 1
      · refine g.chain (c := j) z1 (by omega) (fun i h1 h2 e => ?_) (L + 1 - j) (by omega) j (Nat.le_refl _) z1
        unfold qK at q
        (repeat' split at q) <;> omega
      · have hl := hj.resolve_left (by omega)
        have cE : c = 0 ∨ c = L + 2 ∨ (L + 3 ≤ c ∧ c < j) := by
          unfold qK at q
          (repeat' split at q) <;> omega
        refine g.news (c := j) ?_ hl.1 (fun i h1 h2 e => by omega) j (Nat.le_refl _) hl.2
        exact g.chain (c := 1) (by omega) (by omega) (fun i h1 h2 e => by omega) L (by omega) 1 (by omega) (by omega)
  · exact fun q w => (to w).2 q
end
end
end WK
namespace WK
open PySem PySem.Spec PyProof.Rows L2 He WB PySem.W
section
/-! What a photo of such a row tells: its things, totals. -/
def Ks (L lo hi : Nat) : List Nat := List.range (L + 3) ++ List.range' lo (hi - lo)
theorem inG_Ks {L lo hi k : Nat} : k ∈ Ks L lo hi ↔ inG L lo hi k := by
  unfold Ks inG
  rw [List.mem_append, List.mem_range, List.mem_range'_1]
  omega
theorem range'_lt : ∀ (n s : Nat), (List.range' s n).Pairwise (· < ·)
  | 0, _ => .nil
  | n + 1, s => .cons (fun k hk => by rw [List.mem_range'_1] at hk; omega) (range'_lt n (s + 1))
theorem range_lt (n : Nat) : (List.range n).Pairwise (· < ·) := by rw [List.range_eq_range']; exact range'_lt n 0
theorem srt_same {xs ys : List Nat} (hx : xs.Pairwise (· < ·)) (hy : ys.Pairwise (· < ·)) (h : ∀ k, k ∈ xs ↔ k ∈ ys) : xs = ys := by
  have nd : ∀ {l : List Nat}, l.Pairwise (· < ·) → l.Nodup := fun p => p.imp fun h => Nat.ne_of_lt h
  exact List.Perm.eq_of_pairwise (le := (· < ·)) (fun a b _ _ h1 h2 => absurd h1 (Nat.lt_asymm h2)) hx hy ((List.perm_ext_iff_of_nodup (nd hx) (nd hy)).mpr h)
theorem Ks_srt {L lo hi : Nat} (l1 : L + 3 ≤ lo) : (Ks L lo hi).Pairwise (· < ·) := by
  unfold Ks
  refine List.pairwise_append.mpr ⟨range_lt _, range'_lt _ _, fun a ha b hb => ?_⟩
  rw [List.mem_range] at ha
  rw [List.mem_range'_1] at hb
  omega
section
variable {S : Sta} {L lo hi : Nat}
theorem Gr.ks (g : Gr S L lo hi) {ks : List Nat} (srt : ks.Pairwise (· < ·)) (mem : ∀ k, k ∈ ks ↔ ReachA S k) : ks = Ks L lo hi :=
  srt_same srt (Ks_srt g.l1) fun k => (mem k).trans ((g.reach k).trans inG_Ks.symm)
theorem Gr.keep (g : Gr S L lo hi) {c : Nat} (hc : inG L lo hi c) : keepL S (Ks L lo hi) c = (Ks L lo hi).filter fun j => decide (qK L c j) := by
  unfold keepL
  refine List.filter_congr fun j hj => ?_
  have := g.wout hc (inG_Ks.mp hj)
  by_cases q : qK L c j
  · have e : @decide (Wout S c j) (Classical.propDecidable _) = false := @decide_eq_false _ (Classical.propDecidable _) (this.mpr q)
    rw [e, decide_eq_true q]; rfl
  · have e : @decide (Wout S c j) (Classical.propDecidable _) = true := @decide_eq_true _ (Classical.propDecidable _) (Decidable.byContradiction (dec := Classical.propDecidable _) fun z => q (this.mp z))
    rw [e, decide_eq_false q]; rfl
/-- what the old ones come to -/
def sumA (L : Nat) (z : Nat → Int) (c : Nat) : Int := (((List.range (L + 3)).filter fun j => decide (qK L c j)).map z).sum
theorem sum_const {l : List Nat} {f : Nat → Int} {z : Int} (h : ∀ j ∈ l, f j = z) : (l.map f).sum = l.length * z := by
  induction l with
  | nil => simp
  | cons a r ih =>
    rw [List.map_cons, List.sum_cons, h a List.mem_cons_self, ih fun j hj => h j (List.mem_cons_of_mem _ hj), List.length_cons]
    have : ((r.length + 1 : Nat) : Int) = (r.length : Int) + 1 := by omega
    rw [this, Int.add_mul, Int.one_mul]
    omega
theorem Gr.tot (g : Gr S L lo hi) {z : Nat → Int} {zn : Int} (hz : ∀ j, j < L + 3 → szS S j = z j) (hn : ∀ j, lo ≤ j → j < hi → szS S j = zn) {c : Nat} (hc : inG L lo hi c) :
    totS S (Ks L lo hi) c = if c < L + 3 then sumA L z c + (if 1 ≤ c ∧ c ≤ L + 1 then ((hi - lo : Nat) : Int) * zn else 0) else ((c + 1 - lo : Nat) : Int) * zn := by
  have l1 := g.l1; have l2 := g.l2
  unfold totS
  rw [g.keep hc]
  unfold Ks
  rw [List.filter_append, List.map_append, List.sum_append]
  have e1 : (((List.range (L + 3)).filter fun j => decide (qK L c j)).map (szS S)).sum = sumA L z c := by
    unfold sumA
    congr 1
    refine List.map_congr_left fun j hj => hz j ?_
    exact List.mem_range.mp ((List.mem_filter.mp hj).1)
  rw [e1]
  have cn : ∀ {p : Nat → Bool} {l : List Nat}, (∀ j ∈ l, lo ≤ j ∧ j < hi) → ((l.filter p).map (szS S)).sum = (l.filter p).length * zn := fun h => sum_const fun j hj => by
    have := h j ((List.mem_filter.mp hj).1)
    exact hn j this.1 this.2
  rw [cn fun j hj => by rw [List.mem_range'_1] at hj; omega]
  by_cases z3 : c < L + 3
  · rw [if_pos z3]
    congr 1
    by_cases z1 : 1 ≤ c ∧ c ≤ L + 1
    · rw [if_pos z1, List.filter_eq_self.mpr fun j hj => by rw [List.mem_range'_1] at hj; exact decide_eq_true (by unfold qK; rw [if_neg (by omega), if_pos z1.2]; exact .inr (by omega)), List.length_range']
    · rw [if_neg z1, List.filter_eq_nil_iff.mpr fun j hj => by rw [List.mem_range'_1] at hj; rw [decide_eq_true_eq]; unfold qK; rw [if_pos (by omega)]; omega]
      simp
  · rw [if_neg z3]
    have hl : lo ≤ c ∧ c < hi := hc.resolve_left z3
    have e0 : sumA L z c = 0 := by
      unfold sumA
      rw [List.filter_eq_nil_iff.mpr fun j hj => by rw [List.mem_range] at hj; rw [decide_eq_true_eq]; unfold qK; rw [if_neg (by omega), if_neg (by omega)]; omega]
      rfl
    rw [e0, Int.zero_add]
    congr 2
    have sp : List.range' lo (hi - lo) = List.range' lo (c + 1 - lo) ++ List.range' (c + 1) (hi - (c + 1)) := by
      have := List.range'_append_1 (s := lo) (m := c + 1 - lo) (n := hi - (c + 1))
      rw [show lo + (c + 1 - lo) = c + 1 by omega, show c + 1 - lo + (hi - (c + 1)) = hi - lo by omega] at this
      exact this.symm
    rw [sp, List.filter_append, List.filter_eq_self.mpr fun j hj => by rw [List.mem_range'_1] at hj; exact decide_eq_true (by unfold qK; rw [if_neg (by omega), if_neg (by omega)]; omega),
      List.filter_eq_nil_iff.mpr fun j hj => by rw [List.mem_range'_1] at hj; rw [decide_eq_true_eq]; unfold qK; rw [if_neg (by omega), if_neg (by omega)]; omega, List.append_nil, List.length_range']
end
/-! ### the photos of growing -/
/-- a photo for each turn -/
def snL (many : Nat) (sn : Nat → Snap) : List Snap := (List.range many).map sn
theorem memB_all {many k : Nat} {sn : Nat → Snap} : (memB (snL many sn) k).all id = true ↔ ∀ i, i < many → k ∈ (sn i).2 := by
  unfold memB snL
  rw [List.map_map, List.all_eq_true]
  constructor
  · intro h i hi
    have := h _ (List.mem_map_of_mem (List.mem_range.mpr hi))
    simpa using this
  · intro h b hb
    obtain ⟨i, hi, rfl⟩ := List.mem_map.mp hb
    simpa using h i (List.mem_range.mp hi)
theorem incB_at {many : Nat} {f : Nat → Int} : (incB ((List.range many).map f)).all id = true ↔ ∀ i, i + 1 < many → f i < f (i + 1) := by
  unfold incB
  rw [List.all_eq_true]
  have at_ : ∀ i, (((List.range many).map f).zip (((List.range many).map f).drop 1))[i]? = if i + 1 < many then some (f i, f (i + 1)) else none := fun i => by
    by_cases h : i + 1 < many
    · rw [if_pos h]
      refine List.getElem?_zip_eq_some.mpr ⟨?_, ?_⟩
      · show ((List.range many).map f)[i]? = some (f i)
        rw [List.getElem?_map, List.getElem?_range (by omega)]; rfl
      · show (((List.range many).map f).drop 1)[i]? = some (f (i + 1))
        rw [List.getElem?_drop, List.getElem?_map, List.getElem?_range (by omega), Nat.add_comm 1 i]; rfl
    · rw [if_neg h]
      refine List.getElem?_eq_none ?_
      rw [List.length_zip, List.length_drop, List.length_map, List.length_range]
      omega
  constructor
  · intro h i hi
    have m := List.mem_of_getElem? ((at_ i).trans (if_pos hi))
    have := h _ (List.mem_map_of_mem m)
    simpa using this
  · intro h b hb
    obtain ⟨p, hp, rfl⟩ := List.mem_map.mp hb
    obtain ⟨i, hi⟩ := List.getElem?_of_mem hp
    rw [at_ i] at hi
    split at hi
    · cases hi
      simpa using h i (by assumption)
    · cases hi
theorem growB_iff {many k : Nat} {sn : Nat → Snap} : growB (snL many sn) k = true ↔ (∀ i, i < many → k ∈ (sn i).2) ∧ ∀ i, i + 1 < many → totS (sn i).1 (sn i).2 k < totS (sn (i + 1)).1 (sn (i + 1)).2 k := by
  unfold growB
  rw [Bool.and_eq_true, memB_all]
  refine and_congr_right fun _ => ?_
  have e : sumL (snL many sn) k = (List.range many).map fun i => totS (sn i).1 (sn i).2 k := by
    unfold sumL snL
    rw [List.map_map]; rfl
  rw [e, incB_at]
end
end WK
namespace WK
open PySem PySem.Spec PyProof.Rows L2 He WB PySem.W
section
/-! What leaks, and what is grown. -/
structure Tn (L : Nat) (sn : Nat → Snap) (lo hi : Nat → Nat) (z : Nat → Int) (zn : Int) : Prop where
  g : ∀ i, Gr (sn i).1 L (lo i) (hi i)
  k : ∀ i, (sn i).2 = Ks L (lo i) (hi i)
  z : ∀ i j, j < L + 3 → szS (sn i).1 j = z j
  n : ∀ i j, lo i ≤ j → j < hi i → szS (sn i).1 j = zn
section
variable {L many : Nat} {sn : Nat → Snap} {lo hi : Nat → Nat} {z : Nat → Int} {zn : Int}
theorem Tn.mem (t : Tn L sn lo hi z zn) {i k : Nat} : k ∈ (sn i).2 ↔ inG L (lo i) (hi i) k := by rw [t.k i]; exact inG_Ks
theorem Tn.tot (t : Tn L sn lo hi z zn) {i c : Nat} (hc : inG L (lo i) (hi i) c) : totS (sn i).1 (sn i).2 c = if c < L + 3 then sumA L z c + (if 1 ≤ c ∧ c ≤ L + 1 then ((hi i - lo i : Nat) : Int) * zn else 0) else ((c + 1 - lo i : Nat) : Int) * zn := by
  rw [t.k i]
  exact (t.g i).tot (t.z i) (t.n i) hc
theorem Tn.srt (t : Tn L sn lo hi z zn) (i : Nat) : (sn i).2.Pairwise (· < ·) := by rw [t.k i]; exact Ks_srt (t.g i).l1
theorem leak_mem {l : List Snap} {S : Sta} {ks : List Nat} {k : Nat} : k ∈ leakL l S ks ↔ (k ∈ ks ∧ growB l k = true) ∧ ¬ ∃ j, j ∈ keepL S ks k ∧ j ≠ k ∧ j ∈ ks ∧ growB l j = true := by
  unfold leakL
  rw [List.mem_filter]
  have e1 : ∀ {j : Nat}, j ∈ grL l ks ↔ j ∈ ks ∧ growB l j = true := fun {j} => by unfold grL; exact List.mem_filter
  rw [e1]
  refine and_congr_right fun _ => ?_
  rw [Bool.not_eq_true']
  have e2 : (kaL S ks (grL l ks) k).any id = true ↔ ∃ j, j ∈ keepL S ks k ∧ j ≠ k ∧ j ∈ ks ∧ growB l j = true := by
    unfold kaL
    rw [List.any_eq_true]
    constructor
    · rintro ⟨b, hb, e⟩
      obtain ⟨j, hj, rfl⟩ := List.mem_map.mp hb
      obtain ⟨h1, h2⟩ := List.mem_filter.mp hj
      have h3 : j ∈ grL l ks := of_decide_eq_true e
      refine ⟨j, h1, by simpa using h2, e1.mp h3⟩
    · rintro ⟨j, h1, h2, h3⟩
      exact ⟨_, List.mem_map_of_mem (List.mem_filter.mpr ⟨h1, by simpa using h2⟩), decide_eq_true (e1.mpr h3)⟩
  rw [← e2]
  cases (kaL S ks (grL l ks) k).any id <;> simp
theorem leak_srt {l : List Snap} {S : Sta} {ks : List Nat} (h : ks.Pairwise (· < ·)) : (leakL l S ks).Pairwise (· < ·) := (h.filter _).filter _
/-- each turn a thing more: thing 1 leaks -/
theorem Tn.leak (t : Tn L sn (fun _ => L + 3) (fun i => L + 3 + (i + 1)) z zn) (zp : 0 < zn) (m2 : 2 ≤ many) (i : Nat) (hi : i < many) : leakL (snL many sn) (sn i).1 (sn i).2 = [1] := by
  have gr : ∀ k, growB (snL many sn) k = true ↔ 1 ≤ k ∧ k ≤ L + 1 := fun k => by
    rw [growB_iff]
    constructor
    · rintro ⟨h1, h2⟩
      have a0 := t.mem.mp (h1 0 (by omega))
      have a1 := t.mem.mp (h1 1 (by omega))
      have lt := h2 0 (by omega)
      rw [t.tot a0, t.tot a1] at lt
      by_cases z3 : k < L + 3
      · rw [if_pos z3, if_pos z3] at lt
        by_cases z1 : 1 ≤ k ∧ k ≤ L + 1
        · exact z1
        · rw [if_neg z1, if_neg z1] at lt
          omega
      · rw [if_neg z3, if_neg z3] at lt
        omega
    · intro z1
      have al : ∀ j, inG L (L + 3) (L + 3 + (j + 1)) k := fun j => .inl (by omega)
      refine ⟨fun j _ => t.mem.mpr (al j), fun j _ => ?_⟩
      have z3 : k < L + 3 := by omega
      rw [t.tot (al j), t.tot (al (j + 1)), if_pos z3, if_pos z3, if_pos z1, if_pos z1]
      have e1 : L + 3 + (j + 1) - (L + 3) = j + 1 := by omega
      have e2 : L + 3 + (j + 1 + 1) - (L + 3) = j + 1 + 1 := by omega
      rw [e1, e2]
      have e3 : ((j + 1 + 1 : Nat) : Int) * zn = ((j + 1 : Nat) : Int) * zn + zn := by
        rw [show ((j + 1 + 1 : Nat) : Int) = ((j + 1 : Nat) : Int) + 1 by omega, Int.add_mul, Int.one_mul]
      rw [e3]
      omega
  refine srt_same (leak_srt (t.srt i)) (List.pairwise_singleton _ 1) fun k => ?_
  rw [leak_mem, List.mem_singleton, gr]
  constructor
  · rintro ⟨⟨h1, h2⟩, h3⟩
    refine Decidable.byContradiction fun ne => h3 ⟨1, ?_, by omega, t.mem.mpr (.inl (by omega)), (gr 1).mpr ⟨by omega, by omega⟩⟩
    rw [t.k i, (t.g i).keep (t.mem.mp h1)]
    refine List.mem_filter.mpr ⟨inG_Ks.mpr (.inl (by omega)), decide_eq_true ?_⟩
    unfold qK
    rw [if_neg (by omega), if_pos (by omega)]
    exact .inl (by omega)
  · rintro rfl
    refine ⟨⟨t.mem.mpr (.inl (by omega)), by omega, by omega⟩, ?_⟩
    rintro ⟨j, h1, h2, h3, h4⟩
    have g4 := (gr j).mp h4
    rw [t.k i, (t.g i).keep (.inl (by omega))] at h1
    have q : qK L 1 j := of_decide_eq_true (List.mem_filter.mp h1).2
    unfold qK at q
    rw [if_neg (by omega), if_pos (by omega)] at q
    omega
/-- each turn one made anew, or none: nothing leaks -/
theorem Tn.none_ (t : Tn L sn lo hi z zn) (m2 : 2 ≤ many) (h : ∀ k, k ∈ (sn 0).2 → k ∈ (sn 1).2 → k < L + 3) (w : hi 0 - lo 0 = hi 1 - lo 1) (S : Sta) (ks : List Nat) : leakL (snL many sn) S ks = [] := by
  have no : ∀ k, growB (snL many sn) k = false := fun k => by
    cases e : growB (snL many sn) k with
    | false => rfl
    | true =>
      obtain ⟨h1, h2⟩ := growB_iff.mp e
      have lt := h2 0 (by omega)
      have m0 := h1 0 (by omega)
      have m1 := h1 1 (by omega)
      have z3 := h k m0 m1
      rw [t.tot (t.mem.mp m0), t.tot (t.mem.mp m1), if_pos z3, if_pos z3, w] at lt
      omega
  cases e : leakL (snL many sn) S ks with
  | nil => rfl
  | cons k r =>
    have := (leak_mem.mp (show k ∈ leakL (snL many sn) S ks by rw [e]; exact List.mem_cons_self)).1.2
    rw [no k] at this; cases this
theorem Tn.new (t : Tn L sn (fun _ => L + 3) (fun i => L + 3 + (i + 1)) z zn) (i : Nat) : newL (sn 0).2 (sn i).2 = List.range' (L + 4) i ∧ newL (sn i).2 (sn 0).2 = [] := by
  have m : ∀ {a b : List Nat} {k : Nat}, k ∈ newL a b ↔ k ∈ b ∧ k ∉ a := fun {a b k} => by
    unfold newL
    rw [List.mem_filter]
    simp
  constructor
  · refine srt_same ((t.srt i).filter _) (range'_lt _ _) fun k => ?_
    rw [m, t.mem, t.mem, List.mem_range'_1]
    unfold inG
    omega
  · cases e : newL (sn i).2 (sn 0).2 with
    | nil => rfl
    | cons k r =>
      have := m.mp (show k ∈ newL (sn i).2 (sn 0).2 by rw [e]; exact List.mem_cons_self)
      rw [t.mem, t.mem] at this
      unfold inG at this
      omega
theorem Tn.grown (t : Tn L sn (fun _ => L + 3) (fun i => L + 3 + (i + 1)) z zn) (zp : 0 < zn) {i : Nat} (hi : 1 ≤ i) : grwL (sn 0).1 (sn 0).2 (sn i).1 (sn i).2 = List.range' 1 (L + 1) ∧ ∀ k ∈ List.range' 1 (L + 1), totS (sn i).1 (sn i).2 k - totS (sn 0).1 (sn 0).2 k = (i : Int) * zn := by
  have df : ∀ k, 1 ≤ k → k ≤ L + 1 → totS (sn i).1 (sn i).2 k - totS (sn 0).1 (sn 0).2 k = (i : Int) * zn := fun k h1 h2 => by
    have z3 : k < L + 3 := by omega
    have z1 : 1 ≤ k ∧ k ≤ L + 1 := ⟨h1, h2⟩
    rw [t.tot (.inl z3), t.tot (.inl z3), if_pos z3, if_pos z3, if_pos z1, if_pos z1]
    have e1 : L + 3 + (i + 1) - (L + 3) = i + 1 := by omega
    have e2 : L + 3 + (0 + 1) - (L + 3) = 1 := by omega
    rw [e1, e2]
    have e3 : ((i + 1 : Nat) : Int) * zn = (i : Int) * zn + zn := by
      rw [show ((i + 1 : Nat) : Int) = (i : Int) + 1 by omega, Int.add_mul, Int.one_mul]
    have e4 : ((1 : Nat) : Int) * zn = zn := Int.one_mul _
    rw [e3, e4]
    omega
  have ps : 0 < (i : Int) * zn := Int.mul_pos (by omega) zp
  refine ⟨srt_same (((t.srt i).filter _).filter _) (range'_lt _ _) fun k => ?_, fun k hk => by rw [List.mem_range'_1] at hk; exact df k hk.1 (by omega)⟩
  unfold grwL
  rw [List.mem_range'_1, List.mem_filter, List.mem_filter, t.mem]
  simp only [decide_eq_true_eq]
  rw [t.mem]
  constructor
  · rintro ⟨⟨h1, h2⟩, h3⟩
    rw [t.tot h1, t.tot h2] at h3
    by_cases z3 : k < L + 3
    · rw [if_pos z3, if_pos z3] at h3
      by_cases z1 : 1 ≤ k ∧ k ≤ L + 1
      · omega
      · rw [if_neg z1, if_neg z1] at h3
        omega
    · rw [if_neg z3, if_neg z3] at h3
      omega
  · intro h
    refine ⟨⟨.inl (by omega), .inl (by omega)⟩, ?_⟩
    have := df k h.1 (by omega)
    omega
end
end
end WK
namespace WK
open PySem PySem.Spec PyProof.Rows L2 He WB PySem.W
section
/-! The photos of the law's programs. -/
theorem runs_exec : ∀ {b a : List Deed} {S S1 : Sta} {ts : List Told}, Runs S a ts S1 → (∀ d ∈ b, d.tag ≠ 10) → ∃ ts', Runs S (a ++ b) ts' (execS S1 b)
  | [], a, S, S1, ts, r, _ => ⟨ts, by rw [List.append_nil]; exact r⟩
  | d :: b, a, S, S1, ts, r, h => by
    have r1 : Runs S (a ++ [d]) _ (stepF S1 d).1 := .snoc r (.other (h d List.mem_cons_self))
    obtain ⟨ts', r2⟩ := runs_exec r1 fun x hx => h x (List.mem_cons_of_mem _ hx)
    exact ⟨ts', by rw [List.append_assoc] at r2; exact r2⟩
theorem rep_repD (ds : List Deed) : ∀ n, rep ds n = repD ds n
  | 0 => rfl
  | n + 1 => by show rep ds n ++ ds = repD ds n ++ ds; rw [rep_repD ds n]
theorem repD_all {p : Deed → Prop} {ds : List Deed} (h : ∀ d ∈ ds, p d) : ∀ n, ∀ d ∈ repD ds n, p d
  | 0, _, z => nomatch z
  | n + 1, d, z => (List.mem_append.mp z).elim (repD_all h n d) (h d)
theorem S0_st (bd : Nat → Body) : St S0 (nmL .non .non .non .non .non .non .non .non) 0 bd := ⟨by kernel_rfl, rfl, fun i hi => absurd hi (Nat.not_lt_zero i)⟩
/-- the state behind a turn -/
noncomputable def stT (d1 d2 : List Deed) (i : Nat) : Sta := execS S0 (d1 ++ repD d2 (i + 1))
theorem turn_of {H0 H : Hp} {N : Addr → Prop} {q : Addr} {d1 d2 : List Deed} {i : Nat} {lt : Nat → Addr} (h : PhoTurn H0 N H q d1 d2 i lt) (t1 : ∀ d ∈ d1, d.tag ≠ 10) (t2 : ∀ d ∈ d2, d.tag ≠ 10) {L lo hi : Nat} (g : Gr (stT d1 d2 i) L lo hi) : PhoAt H q (stT d1 d2 i) (Ks L lo hi) := by
  obtain ⟨S, ks, ts, run, srt, mem, x⟩ := h
  obtain ⟨ts', r2⟩ := runs_exec (a := []) (b := d1 ++ repD d2 (i + 1)) (S := S0) .nil fun d hd => (List.mem_append.mp hd).elim (t1 d) (repD_all t2 _ d)
  rw [List.nil_append] at r2
  rw [rep_repD] at run
  obtain ⟨_, e⟩ := run.one r2
  have e : S = stT d1 d2 i := e
  subst e
  rw [g.ks srt mem] at x
  exact x.at
theorem pho_ok {d1 d2 : List Deed} {i : Nat} (o1 : ∀ d ∈ d1, d.ok) (o2 : ∀ d ∈ d2, d.ok) (t1 : ∀ d ∈ d1, d.tag ≠ 10) (t2 : ∀ d ∈ d2, d.tag ≠ 10) {L lo hi : Nat} (g : Gr (stT d1 d2 i) L lo hi) (sz : L + 3 + hi ≤ 1000) : PhoOk (stT d1 d2 i) (Ks L lo hi) := by
  obtain ⟨ts', r2⟩ := runs_exec (a := []) (b := d1 ++ repD d2 (i + 1)) (S := S0) .nil fun d hd => (List.mem_append.mp hd).elim (t1 d) (repD_all t2 _ d)
  rw [List.nil_append] at r2
  obtain ⟨ok, _⟩ := r2.ok ok0 fun d hd => (List.mem_append.mp hd).elim (o1 d) (repD_all o2 _ d)
  refine PhoOk.of ok (Ks_srt g.l1) ?_ fun k => inG_Ks.trans (g.reach k).symm
  unfold Ks
  rw [List.length_append, List.length_range, List.length_range']
  have := g.l2
  omega
section
variable {S : Sta} {ks : List Nat} {n : Nat} {f : V → Body}
theorem nums_A {L m : Nat} {bd : Nat → Body} (h : St S (nmA L .non .non .non) m bd) : numsS S = [L + 1, L + 2, 0] := by
  unfold numsS
  rw [h.names]; rfl
theorem held_A {nm : List (Key × V)} {m : Nat} {bd : Nat → Body} (h : St S nm m bd) {i : Nat} (hi : i < m) : heldS S i = (bd i).held := by
  unfold heldS
  rw [h.th i hi]
theorem size_A {nm : List (Key × V)} {m : Nat} {bd : Nat → Body} (h : St S nm m bd) {i : Nat} (hi : i < m) : szS S i = (bd i).size := by
  unfold szS
  rw [h.th i hi]
theorem bdF_0 {a : V} : (bdF ks a 0).held = [ks.length + 2] := by
  unfold bdF
  rw [if_pos rfl, rec_held]; rfl
theorem bdF_v {a : V} : (bdF ks a (ks.length + 2)).held = [] := by
  unfold bdF
  rw [if_neg (by omega), if_neg (by omega), if_neg (by omega)]; rfl
theorem bdF_c {a : V} {i : Nat} (h1 : 2 ≤ i) (h2 : i ≤ ks.length + 1) : (bdF ks a i).held = [i - 1] := by
  unfold bdF
  rw [if_neg (by omega), if_neg (by omega), if_pos h2, c_held]; rfl
theorem bdF_h1 {a : V} : (bdF ks a 1).held = rf a := by
  rw [bdF_1, rec_held]
  show rf a ++ ([] ++ []) = _
  rw [List.append_nil, List.append_nil]
theorem bdM_old {i : Nat} (h : i ≤ ks.length + 2) : bdM ks f n i = bdF ks (if n = 0 then .non else .ref (ks.length + 2 + n)) i := by unfold bdM; exact if_pos h
theorem bdM_new {i : Nat} (h : ks.length + 3 ≤ i) : bdM ks f n i = f (if i = ks.length + 3 then .non else .ref (i - 1)) := by unfold bdM; exact if_neg (by omega)
theorem gr_main (h : St S (nmA ks.length .non .non .non) (ks.length + 3 + n) (bdM ks f n)) (hf : ∀ x, (f x).held = rf x) (n1 : 1 ≤ n) : Gr S ks.length (ks.length + 3) (ks.length + 3 + n) where
  nums := nums_A h
  h0 := by rw [held_A h (by omega), bdM_old (by omega), bdF_0]
  hv := by rw [held_A h (by omega), bdM_old (by omega), bdF_v]
  hc := fun a h1 h2 => by rw [held_A h (by omega), bdM_old (by omega), bdF_c h1 h2]
  h1 := by
    rw [held_A h (by omega), bdM_old (by omega), bdF_h1, if_neg (by omega), if_pos (by omega)]
    show [_] = [_]
    rw [show ks.length + 3 + n - 1 = ks.length + 2 + n by omega]
  hn := fun a h1 h2 => by rw [held_A h (by omega), bdM_new (by omega), hf, if_neg (by omega)]; rfl
  hlo := fun h1 => by rw [held_A h (by omega), bdM_new (by omega), hf, if_pos rfl]; rfl
  l1 := Nat.le_refl _
  l2 := by omega
theorem gr_other (h : St S (nmA ks.length .non .non .non) (ks.length + 3 + n) (bdM ks f n)) (hf : ∀ x, (f x).held = []) (n1 : 1 ≤ n) : Gr S ks.length (ks.length + 2 + n) (ks.length + 3 + n) where
  nums := nums_A h
  h0 := by rw [held_A h (by omega), bdM_old (by omega), bdF_0]
  hv := by rw [held_A h (by omega), bdM_old (by omega), bdF_v]
  hc := fun a h1 h2 => by rw [held_A h (by omega), bdM_old (by omega), bdF_c h1 h2]
  h1 := by
    rw [held_A h (by omega), bdM_old (by omega), bdF_h1, if_neg (by omega), if_pos (by omega)]
    show [_] = [_]
    rw [show ks.length + 3 + n - 1 = ks.length + 2 + n by omega]
  hn := fun a h1 h2 => by omega
  hlo := fun h1 => by rw [held_A h (by omega), bdM_new (by omega), hf]
  l1 := by omega
  l2 := by omega
theorem gr_go (h : St S (nmA ks.length .non .non .non) (ks.length + 3) (bdF ks .non)) : Gr S ks.length (ks.length + 3) (ks.length + 3) where
  nums := nums_A h
  h0 := by rw [held_A h (by omega), bdF_0]
  hv := by rw [held_A h (by omega), bdF_v]
  hc := fun a h1 h2 => by rw [held_A h (by omega), bdF_c h1 h2]
  h1 := by rw [held_A h (by omega), bdF_h1, if_neg (by omega)]; rfl
  hn := fun a h1 h2 => by omega
  hlo := fun h1 => by omega
  l1 := Nat.le_refl _
  l2 := Nat.le_refl _
def zF (ks : List Nat) (j : Nat) : Int := (bdF ks .non j).size
theorem zF_any {a : V} {j : Nat} : (bdF ks a j).size = zF ks j := by
  unfold zF bdF
  by_cases h0 : j = 0
  · rw [if_pos h0, if_pos h0]
  · rw [if_neg h0, if_neg h0]
    by_cases h1 : j = 1
    · rw [if_pos h1, if_pos h1]; rfl
    · rw [if_neg h1, if_neg h1]
theorem sz_old (h : St S (nmA ks.length .non .non .non) (ks.length + 3 + n) (bdM ks f n)) {j : Nat} (hj : j < ks.length + 3) : szS S j = zF ks j := by rw [size_A h (by omega), bdM_old (by omega), zF_any]
theorem sz_new (h : St S (nmA ks.length .non .non .non) (ks.length + 3 + n) (bdM ks f n)) {z : Int} (hf : ∀ x, (f x).size = z) {j : Nat} (h1 : ks.length + 3 ≤ j) (h2 : j < ks.length + 3 + n) : szS S j = z := by rw [size_A h (by omega), bdM_new h1, hf]
end
theorem em_held : ∀ e, (emptyB (kd2 e)).held = []
  | 0 => by kernel_rfl
  | n + 1 => by kernel_rfl
/-- the three photos' turns -/
theorem tn_main (ks : List Nat) (e : Nat) : Tn ks.length (fun i => (stT (firstD ks) (againD ks e) i, Ks ks.length (ks.length + 3) (ks.length + 3 + (i + 1)))) (fun _ => ks.length + 3) (fun i => ks.length + 3 + (i + 1)) (zF ks) (szN e) where
  g := fun i => gr_main (main_st ks e (S0_st fun _ => .row []) (i + 1)) (n_held · e) (by omega)
  k := fun _ => rfl
  z := fun i j hj => sz_old (main_st ks e (S0_st fun _ => .row []) (i + 1)) hj
  n := fun i j h1 h2 => sz_new (main_st ks e (S0_st fun _ => .row []) (i + 1)) (n_size · e) h1 h2
theorem tn_other (ks : List Nat) (e : Nat) : Tn ks.length (fun i => (stT (firstD ks) (otherD ks e) i, Ks ks.length (ks.length + 2 + (i + 1)) (ks.length + 3 + (i + 1)))) (fun i => ks.length + 2 + (i + 1)) (fun i => ks.length + 3 + (i + 1)) (zF ks) (emptyB (kd2 e)).size where
  g := fun i => gr_other (oth_st ks e (S0_st fun _ => .row []) (i + 1)) (fun _ => em_held e) (by omega)
  k := fun _ => rfl
  z := fun i j hj => sz_old (oth_st ks e (S0_st fun _ => .row []) (i + 1)) hj
  n := fun i j h1 h2 => sz_new (oth_st ks e (S0_st fun _ => .row []) (i + 1)) (fun _ => rfl) (by omega) h2
theorem tn_go (ks : List Nat) : Tn ks.length (fun i => (stT (firstD ks) (goD ks) i, Ks ks.length (ks.length + 3) (ks.length + 3))) (fun _ => ks.length + 3) (fun _ => ks.length + 3) (zF ks) 0 where
  g := fun i => gr_go (bye_st ks (S0_st fun _ => .row []) (i + 1))
  k := fun _ => rfl
  z := fun i j hj => by
    exact (size_A (bye_st ks (S0_st fun _ => .row []) (i + 1)) hj).trans rfl
  n := fun i j h1 h2 => by omega
theorem szN_pos : ∀ e, 0 < szN e
  | 0 => (by decide : (0 : Int) < 5)
  | n + 1 => (by decide : (0 : Int) < 3)
/-! ### the deeds are good -/
def tame (d : Deed) : Prop := d.ok ∧ d.tag ≠ 10
theorem pt_ok : ∀ j, PartOk (ptK j)
  | 0 => (by decide +kernel : ("b" : Str) ∈ WB.lets)
  | 1 => ⟨by decide, by decide⟩
  | n + 2 => ⟨by decide, by decide⟩
theorem pt2_ok : ∀ e, PartOk (pt2 e)
  | 0 => (by decide +kernel : ("a" : Str) ∈ WB.lets)
  | n + 1 => ⟨by decide, by decide⟩
theorem kd_ok : ∀ j, kdS j ∈ (["record", "row", "book"] : List Str)
  | 0 => by decide +kernel
  | 1 => by decide +kernel
  | n + 2 => by show ("book" : Str) ∈ _; decide +kernel
theorem kd2_ok : ∀ j, kd2 j ∈ (["record", "row", "book"] : List Str)
  | 0 => by decide +kernel
  | n + 1 => by show ("book" : Str) ∈ _; decide +kernel
theorem nm_in : ("p" : Str) ∈ nmS ∧ ("q" : Str) ∈ nmS ∧ ("s" : Str) ∈ nmS ∧ ("t" : Str) ∈ nmS ∧ ("u" : Str) ∈ nmS ∧ ("v" : Str) ∈ nmS ∧ ("w" : Str) ∈ nmS := by decide +kernel
theorem tame_down (ks : List Nat) : ∀ d ∈ downD ks, tame d := fun d hd => by
  obtain ⟨ip, iq, is, it, iu, iv, iw⟩ := nm_in
  rcases List.mem_cons.mp hd with rfl | hd
  · exact ⟨⟨is, ip⟩, by decide⟩
  · obtain ⟨j, _, rfl⟩ := List.mem_map.mp hd
    exact ⟨⟨is, is, pt_ok j⟩, (fun z => by cases z)⟩
theorem tame_first (ks : List Nat) : ∀ d ∈ firstD ks, tame d := fun d hd => by
  obtain ⟨ip, iq, is, it, iu, iv, iw⟩ := nm_in
  unfold firstD at hd
  rcases List.mem_append.mp hd with hd | hd
  · rcases List.mem_append.mp hd with hd | hd
    · simp only [List.mem_cons, List.not_mem_nil, or_false] at hd
      rcases hd with rfl | rfl
      · exact ⟨⟨iw, kd_ok 0⟩, (fun z => by cases z)⟩
      · exact ⟨⟨ip, kd_ok 0⟩, (fun z => by cases z)⟩
    · unfold chainD at hd
      obtain ⟨j, _, hd⟩ := List.mem_flatMap.mp hd
      simp only [List.mem_cons, List.not_mem_nil, or_false] at hd
      rcases hd with rfl | rfl | rfl
      · exact ⟨⟨iq, kd_ok j⟩, (fun z => by cases z)⟩
      · exact ⟨⟨iq, pt_ok j, ip⟩, (fun z => by cases z)⟩
      · exact ⟨⟨ip, iq⟩, (fun z => by cases z)⟩
  · simp only [List.mem_cons, List.not_mem_nil, or_false] at hd
    rcases hd with rfl | rfl | rfl
    · exact ⟨⟨iv, kd_ok 1⟩, (fun z => by cases z)⟩
    · exact ⟨⟨iw, (by decide +kernel : ("d" : Str) ∈ WB.lets), iv⟩, (fun z => by cases z)⟩
    · exact ⟨iq, (fun z => by cases z)⟩
theorem tame_again (ks : List Nat) (e : Nat) : ∀ d ∈ againD ks e, tame d := fun d hd => by
  obtain ⟨ip, iq, is, it, iu, iv, iw⟩ := nm_in
  unfold againD endD at hd
  rcases List.mem_append.mp hd with hd | hd
  · rcases List.mem_append.mp hd with hd | hd
    · exact tame_down ks d hd
    · simp only [List.mem_cons, List.not_mem_nil, or_false] at hd
      rcases hd with rfl | rfl | rfl | rfl
      · exact ⟨⟨it, kd2_ok e⟩, (fun z => by cases z)⟩
      · exact ⟨⟨iu, is, pt2_ok 0⟩, (fun z => by cases z)⟩
      · exact ⟨⟨it, pt2_ok e, iu⟩, (fun z => by cases z)⟩
      · exact ⟨⟨is, pt2_ok 0, it⟩, (fun z => by cases z)⟩
  · simp only [List.mem_cons, List.not_mem_nil, or_false] at hd
    rcases hd with rfl | rfl | rfl
    · exact ⟨is, (fun z => by cases z)⟩
    · exact ⟨it, (fun z => by cases z)⟩
    · exact ⟨iu, (fun z => by cases z)⟩
theorem other_sub (ks : List Nat) (e : Nat) : ∀ d ∈ otherD ks e, d ∈ againD ks e := fun d hd => by
  unfold otherD at hd
  unfold againD
  simp only [List.mem_append, List.mem_cons, List.not_mem_nil, or_false] at hd ⊢
  rcases hd with (h | h | h | h) | h
  · exact .inl (.inl h)
  · exact .inl (.inr (.inl h))
  · exact .inl (.inr (.inr (.inl h)))
  · exact .inl (.inr (.inr (.inr (.inr h))))
  · exact .inr h
theorem tame_go (ks : List Nat) : ∀ d ∈ goD ks, tame d := fun d hd => by
  unfold goD at hd
  rcases List.mem_append.mp hd with hd | hd
  · exact tame_down ks d hd
  · rw [List.mem_singleton.mp hd]
    exact ⟨nm_in.2.2.1, (fun z => by cases z)⟩
end
end WK
namespace WK
open PySem PySem.Spec PyProof.Rows L2 He WB PySem.W
section
variable {P : Program} {w : World} {K : PySem.W.Frag} {mg : Str → Option Value} {base : Heap}
/-- at r a list of deeds -/
def DLa (H : Hp) (r : Addr) (ds : List Deed) : Prop := ∃ ps : List Addr, H r = some (.lst (ps.map V.ref)) ∧ Paired (DeedAt H) ps ds
theorem DLa.same {H H' : Hp} (s : Same H H') {r : Addr} {ds : List Deed} (h : DLa H r ds) : DLa H' r ds := by
  obtain ⟨ps, e, p⟩ := h
  exact ⟨ps, s _ _ e, Paired.imp (fun _ _ z => z.same s) p⟩
theorem DLa.stp {H H' : Hp} {O : List Addr} (s : Stp O H H') (tp : Tup H H') {r : Addr} {ds : List Deed} (h : DLa H r ds) (n : r ∉ O) : DLa H' r ds := by
  obtain ⟨ps, e, p⟩ := h
  exact ⟨ps, s _ _ e n, Paired.imp (fun _ _ z => ⟨z.1, tp _ _ z.2⟩) p⟩
theorem DeedAt.tup {H H' : Hp} (s : Tup H H') {p : Addr} {d : Deed} (h : DeedAt H p d) : DeedAt H' p d := ⟨h.1, s _ _ h.2⟩
/-- new deeds, one behind another -/
structure TDs (H0 H : Hp) (ts : List Addr) (ds : List Deed) : Prop where
  s : Same H0 H
  p : Paired (DeedAt H) ts ds
abbrev tD (d : Deed) : HO := .tup (.str d.word :: d.args)
theorem TDs.nil {H : Hp} : TDs H H [] [] := ⟨Same.refl H, .nil⟩
theorem TDs.start {H0 H : Hp} (s : Same H0 H) : TDs H0 H [] [] := ⟨s, .nil⟩
theorem TDs.snoc {H0 H : Hp} {ts : List Addr} {ds : List Deed} (x : TDs H0 H ts ds) (d : Deed) (ok : d.ok) {t : Addr} (ht : H t = none) : TDs H0 (upd H t (tD d)) (ts ++ [t]) (ds ++ [d]) :=
  ⟨x.s.trans (same_new ht), Paired.app (Paired.imp (fun _ _ z => z.same (same_new ht)) x.p) (.cons ⟨ok, upd_same⟩ .nil)⟩
theorem TDs.lst {H0 H : Hp} {ts : List Addr} {ds : List Deed} (x : TDs H0 H ts ds) {l : Addr} (hl : H l = none) : Same H0 (upd H l (.lst (ts.map V.ref))) ∧ DLa (upd H l (.lst (ts.map V.ref))) l ds :=
  ⟨x.s.trans (same_new hl), ts, upd_same, Paired.imp (fun _ _ z => z.same (same_new hl)) x.p⟩
theorem cat_dl {H : Hp} {xs zs : List Addr} {d1 d2 : List Deed} {p : Addr} (hp : H p = none) (h1 : Paired (DeedAt H) xs d1) (h2 : Paired (DeedAt H) zs d2) : DLa (upd H p (.lst (xs.map V.ref ++ zs.map V.ref))) p (d1 ++ d2) :=
  ⟨xs ++ zs, by rw [upd_same, List.map_append], Paired.app (Paired.imp (fun _ _ z => z.same (same_new hp)) h1) (Paired.imp (fun _ _ z => z.same (same_new hp)) h2)⟩
def ptV : Nat → V | 0 => .str "b" | 1 => .int 0 | _ => .int 7
theorem ptV_eq : ∀ j, ptV j = kV (ptK j)
  | 0 => rfl
  | 1 => rfl
  | _ + 2 => rfl
theorem kd_at : ∀ j, j < 3 → ([V.str "record", V.str "row", V.str "book"] : List V)[j]? = some (.str (kdS j))
  | 0, _ => rfl
  | 1, _ => rfl
  | 2, _ => rfl
  | n + 3, h => absurd h (by omega)
theorem pt_get : ∀ j, j < 3 → valV (mergeK [] [((.inr "record" : Key), V.str "b"), (.inr "row", .int 0), (.inr "book", .int 7)]) (.inr (kdS j)) = some (ptV j)
  | 0, _ => by kernel_rfl
  | 1, _ => by kernel_rfl
  | 2, _ => by kernel_rfl
  | n + 3, h => absurd h (by omega)
theorem Stp.freeN {H H' : Hp} {h ls a : Addr} (s : Stp [h, ls] H H') (n : NumAt H' h ls) (ha : H' a = none) : H a = none := by
  cases z : H a with
  | none => rfl
  | some o =>
    have na : a ∉ [h, ls] := NumAt.fresh n ha
    rw [s _ _ z na] at ha; cases ha
def spLFirst : Sp := fun vs H Q _ => ∃ (h ls : Addr) (deep : Nat), vs = [.ref h, .int (deep : Int)] ∧ NumAt H h ls ∧ deep ≤ 5 ∧
  ∀ r H' ks, Stp [h, ls] H H' → NumAt H' h ls → H r = none → ks.length = deep → DLa H' r (firstD ks) → Q (.ref r) H'
theorem chain_snoc (ks : List Nat) (j : Nat) : chainD (ks ++ [j]) = chainD ks ++ [.make "q" (kdS j), .put "q" (ptK j) "p", .copy "p" "q"] := by
  unfold chainD
  rw [List.flatMap_append]; rfl
theorem chain_len (ks : List Nat) : (chainD ks).length = 3 * ks.length := by
  unfold chainD
  induction ks with
  | nil => rfl
  | cons j r ih =>
    rw [List.flatMap_cons, List.length_append, ih, List.length_cons]
    simp only [List.length_cons, List.length_nil]; omega
theorem ok__law_first (T : Tx w K mg) : DefOk ⟨P, w, K, mg, base⟩ 2 (ga K "_law_first") ["_law_h", "_law_deep"] spLFirst := by
  refine DefOk.mk' (f__law_first T) sc__law_first (fun _ _ _ _ _ _ us hl => match us, hl with | [_, _], _ => rfl) (fun vs H Q E h => ?_) (fun cdv A outer s H vs Q E hr h => ?_)
  · obtain ⟨h, ls, deep, rfl, _⟩ := h
    rfl
  · obtain ⟨h, ls, deep, rfl, num, d5, k⟩ := h
    have hu := hu_of hr
    refine ⟨_, (pss_cons (ps_set (i := 2) sc__law_first.nd rfl (Or.inl rfl) (pe_lst (pa_cons (pe_tup (pa_cons pe_str (pa_cons pe_str (pa_cons pe_str pa_nil)))) (pa_cons (pe_tup (pa_cons pe_str (pa_cons pe_str (pa_cons pe_str pa_nil)))) pa_nil)))) (pss_cons (ps_for PassesOwn.never rfl (pi_range1 rfl (z_range T) (pa_cons (pv 1) pa_nil)) (pg_name (i := 3) sc__law_first.nd rfl (Or.inl rfl)) (pss_cons (ps_set (i := 4) sc__law_first.nd rfl (Or.inl rfl) (pe_ix ix_list (pe_lst (pa_cons pe_str (pa_cons pe_str (pa_cons pe_str pa_nil)))) (pe_cg (M := ⟨P, w, K, mg, base⟩) rfl hr rfl (pa_cons (pv 0) (pa_cons pe_int pa_nil))) (fun _ _ => rfl))) (pss_cons (ps_set (i := 5) sc__law_first.nd rfl (Or.inl rfl) (pe_dget hu (pe_disp (pps_cons pe_str pe_str (pps_cons pe_str pe_int (pps_cons pe_str pe_int pps_nil))) (by rfl) (by rfl) (fun z => by cases z) (by decide)) (pv 4) (fun _ _ => rfl))) (pss_one (ps_set (i := 2) sc__law_first.nd rfl (Or.inl rfl) (pe_op op_cat (pv 2) (pe_lst (pa_cons (pe_tup (pa_cons pe_str (pa_cons pe_str (pa_cons (pv 4) pa_nil)))) (pa_cons (pe_tup (pa_cons pe_str (pa_cons pe_str (pa_cons (pv 5) (pa_cons pe_str pa_nil))))) (pa_cons (pe_tup (pa_cons pe_str (pa_cons pe_str (pa_cons pe_str pa_nil)))) pa_nil)))))))))) (pss_one (ps_ret (pe_op op_cat (pv 2) (pe_lst (pa_cons (pe_tup (pa_cons pe_str (pa_cons pe_str (pa_cons pe_str pa_nil)))) (pa_cons (pe_tup (pa_cons pe_str (pa_cons pe_str (pa_cons pe_str (pa_cons pe_str pa_nil))))) (pa_cons (pe_tup (pa_cons pe_str (pa_cons pe_str pa_nil))) pa_nil))))))))), ?_⟩
    have num0 := num
    obtain ⟨ip, iq, is, it, iu, iv, iw⟩ := nm_in
    have x0 : TDs H H [] [] := TDs.nil
    refine ⟨by show 3 ≤ sizeLine; decide, fun t1 ht1 => ⟨by show 3 ≤ sizeLine; decide, fun t2 ht2 => ⟨by show 2 ≤ sizeLine; decide, fun f hf => ?_⟩⟩⟩
    have x2 := (x0.snoc (.make "w" "record") ⟨iw, kd_ok 0⟩ ht1).snoc (.make "p" "record") ⟨ip, kd_ok 0⟩ ht2
    obtain ⟨sf, df⟩ := x2.lst hf
    have f0 : H f = none := x2.s.free hf
    show tSeq _ _ _ _ (upd (upd (upd H t1 (tD (.make "w" "record"))) t2 (tD (.make "p" "record"))) f (.lst (([] ++ [t1] ++ [t2]).map V.ref)))
    generalize upd (upd (upd H t1 (tD (.make "w" "record"))) t2 (tD (.make "p" "record"))) f (.lst (([] ++ [t1] ++ [t2]).map V.ref)) = H1 at sf df ⊢
    clear x2 x0 hf ht1 ht2
    have two : ∀ {b}, b ≠ h → b ≠ ls → b ∉ [h, ls] := fun h1 h2 z => (List.mem_cons.mp z).elim h1 fun z => h2 (List.mem_singleton.mp z)
    refine ⟨_, rfl, _, rfl, by omega, by omega, ?_⟩
    refine for_it walk_range (fun i σ H' => ∃ (f : Addr) (ks : List Nat) (x3 x4 x5 : Option V), σ = [some (.ref h), some (.int (deep : Int)), some (.ref f), x3, x4, x5] ∧ Stp [h, ls] H H' ∧ NumAt H' h ls ∧ H f = none ∧ ks.length = i ∧ DLa H' f ([.make "w" "record", .make "p" "record"] ++ chainD ks))
      ⟨f, [], _, _, _, rfl, Stp.of_same sf, num.same sf, f0, rfl, df⟩ (fun _ _ _ _ _ => trivial) ?_ ?_
    · clear df sf f0
      rintro i x σ H2 H3 hi ⟨f, ks, x3, x4, x5, rfl, st, num, f0, lk, dl⟩ ⟨rfl, ex⟩
      have hi : i < deep := hi
      refine ⟨by show 3 ≤ sizeLine; decide, fun q hq => ?_⟩
      have s1 := same_new (o := .lst [V.str "record", V.str "row", V.str "book"]) hq
      have num1 := num.same s1
      refine ⟨_, _, _, _, g__law_next T, ok__law_next T, by decide, _, rfl, h, ls, 3, rfl, num1, by decide, by decide, fun v H4 v0 v1 st4 n4 => ?_⟩
      obtain ⟨j, rfl⟩ := nat_of v0
      have j3 : j < 3 := by omega
      have g4 := st4 _ _ (upd_same (H := H3) (a := q)) (NumAt.fresh num hq)
      refine ⟨q, _, j, _, rfl, rfl, SqL.of g4, atI_nat (kd_at j j3), ?_⟩
      have fn : f ∉ [h, ls] := NumAt.fresh num0 f0
      have dl4 : DLa H4 f _ := (dl.same s1).stp st4 (NumAt_tup num1 st4) fn
      have st04 : Stp [h, ls] H H4 := fun b o e nb => st4 _ _ (s1 _ _ (st _ _ e nb)) nb
      clear g4 st4 num1 s1 hq st dl num
      refine fun D hD => ?_
      refine ⟨upd_same, [((.inr "record" : Key), V.str "b"), (.inr "row", .int 0), (.inr "book", .int 7)], rfl, by decide, ?_⟩
      have s5 : Same H4 (upd (upd H4 D (.dK [])) D (.dK (mergeK [] [((.inr "record" : Key), V.str "b"), (.inr "row", .int 0), (.inr "book", .int 7)]))) := same_mut (same_new hD) hD
      have g5 : (upd (upd H4 D (.dK [])) D (.dK (mergeK [] [((.inr "record" : Key), V.str "b"), (.inr "row", .int 0), (.inr "book", .int 7)]))) D = some (.dK (mergeK [] [((.inr "record" : Key), V.str "b"), (.inr "row", .int 0), (.inr "book", .int 7)])) := upd_same
      generalize (upd (upd H4 D (.dK [])) D (.dK (mergeK [] [((.inr "record" : Key), V.str "b"), (.inr "row", .int 0), (.inr "book", .int 7)]))) = H5 at s5 g5 ⊢
      have dg : DGet H5 D (.str (kdS j)) (some (kV (ptK j))) := by
        have := DGet.k (k := .inr (kdS j)) g5
        rw [pt_get j j3, ptV_eq] at this
        exact this
      refine ⟨_, rfl, D, _, rfl, dg, ?_⟩
      have x0 : TDs H4 H5 [] [] := TDs.start s5
      refine ⟨_, rfl, ?_⟩
      refine ⟨_, rfl, by show 3 ≤ sizeLine; decide, fun t1 ht1 => ⟨_, rfl, by show 4 ≤ sizeLine; decide, fun t2 ht2 => ⟨by show 3 ≤ sizeLine; decide, fun t3 ht3 => ⟨by show 3 ≤ sizeLine; decide, fun l hl => ?_⟩⟩⟩⟩
      have x3 := ((x0.snoc (.make "q" (kdS j)) ⟨iq, kd_ok j⟩ ht1).snoc (.put "q" (ptK j) "p") ⟨iq, pt_ok j, ip⟩ ht2).snoc (.copy "p" "q") ⟨ip, iq⟩ ht3
      obtain ⟨sl, ts, gl, pl⟩ := x3.lst hl
      have dlb : DLa (upd (upd (upd (upd H5 t1 (tD (.make "q" (kdS j)))) t2 (tD (.put "q" (ptK j) "p"))) t3 (tD (.copy "p" "q"))) l (.lst (([] ++ [t1] ++ [t2] ++ [t3]).map V.ref))) f _ := dl4.same sl
      show rCat (.ref f) (.ref l) (upd (upd (upd (upd H5 t1 (tD (.make "q" (kdS j)))) t2 (tD (.put "q" (ptK j) "p"))) t3 (tD (.copy "p" "q"))) l (.lst (([] ++ [t1] ++ [t2] ++ [t3]).map V.ref))) _
      generalize upd (upd (upd (upd H5 t1 (tD (.make "q" (kdS j)))) t2 (tD (.put "q" (ptK j) "p"))) t3 (tD (.copy "p" "q"))) l (.lst (([] ++ [t1] ++ [t2] ++ [t3]).map V.ref)) = H6 at sl gl pl dlb ⊢
      obtain ⟨ps, gf, pf⟩ := dlb
      have lps := Paired.length pf
      have lts := Paired.length pl
      rw [List.length_append, chain_len] at lps
      simp only [List.length_cons, List.length_nil] at lps
      simp only [List.length_append, List.length_cons, List.length_nil] at lts
      refine ⟨f, l, _, _, rfl, rfl, gf, gl, by rw [List.length_map, List.length_map]; exact Nat.le_of_lt (szl (by omega)), fun r hr => ?_⟩
      have dr := cat_dl hr pf pl
      have st6 : Stp [h, ls] H (upd H6 r (.lst (ps.map V.ref ++ ts.map V.ref))) := fun b o e nb => same_new hr _ _ (sl _ _ (st04 _ _ e nb))
      have n6 : NumAt (upd H6 r (.lst (ps.map V.ref ++ ts.map V.ref))) h ls := (n4.same sl).same (same_new hr)
      refine ⟨r, ks ++ [j], _, _, _, rfl, st6, n6, ?_, by rw [List.length_append, lk]; rfl, ?_⟩
      · refine Stp.freeN st04 n4 (sl.free hr)
      · rw [chain_snoc, ← List.append_assoc]
        exact dr
    · rintro σ H2 ⟨f, ks, x3, x4, x5, rfl, st, num, f0, lk, dl⟩
      have lk : ks.length = deep := lk
      have x0 : TDs H2 H2 [] [] := TDs.nil
      refine ⟨_, rfl, ?_⟩
      refine ⟨by show 3 ≤ sizeLine; decide, fun t1 ht1 => ⟨by show 4 ≤ sizeLine; decide, fun t2 ht2 => ⟨by show 2 ≤ sizeLine; decide, fun t3 ht3 => ⟨by show 3 ≤ sizeLine; decide, fun l hl => ?_⟩⟩⟩⟩
      have x3 := ((x0.snoc (.make "v" "row") ⟨iv, kd_ok 1⟩ ht1).snoc (.put "w" (.inr "d") "v") ⟨iw, (by decide +kernel : ("d" : Str) ∈ WB.lets), iv⟩ ht2).snoc (.drop "q") iq ht3
      obtain ⟨sl, ts, gl, pl⟩ := x3.lst hl
      have dlb : DLa (upd (upd (upd (upd H2 t1 (tD (.make "v" "row"))) t2 (tD (.put "w" (.inr "d") "v"))) t3 (tD (.drop "q"))) l (.lst (([] ++ [t1] ++ [t2] ++ [t3]).map V.ref))) f _ := dl.same sl
      show rCat (.ref f) (.ref l) (upd (upd (upd (upd H2 t1 (tD (.make "v" "row"))) t2 (tD (.put "w" (.inr "d") "v"))) t3 (tD (.drop "q"))) l (.lst (([] ++ [t1] ++ [t2] ++ [t3]).map V.ref))) _
      generalize upd (upd (upd (upd H2 t1 (tD (.make "v" "row"))) t2 (tD (.put "w" (.inr "d") "v"))) t3 (tD (.drop "q"))) l (.lst (([] ++ [t1] ++ [t2] ++ [t3]).map V.ref)) = H6 at sl gl pl dlb ⊢
      obtain ⟨ps, gf, pf⟩ := dlb
      have lps := Paired.length pf
      have lts := Paired.length pl
      rw [List.length_append, chain_len] at lps
      simp only [List.length_cons, List.length_nil] at lps
      simp only [List.length_append, List.length_cons, List.length_nil] at lts
      refine ⟨f, l, _, _, rfl, rfl, gf, gl, by rw [List.length_map, List.length_map]; exact Nat.le_of_lt (szl (by omega)), fun r hr => ?_⟩
      have dr := cat_dl hr pf pl
      have st6 : Stp [h, ls] H (upd H6 r (.lst (ps.map V.ref ++ ts.map V.ref))) := fun b o e nb => same_new hr _ _ (sl _ _ (st _ _ e nb))
      exact k r _ ks st6 ((num.same sl).same (same_new hr)) (Stp.freeN st num (sl.free hr)) lk dr
def spLDown : Sp := fun vs H Q _ => ∃ (h r : Addr) (ks : List Nat), vs = [.ref h, .ref r] ∧ DLa H r (firstD ks) ∧ ks.length ≤ 5 ∧
  ∀ q H', Same H H' → H q = none → DLa H' q (downD ks) → Q (.ref q) H'
/-- what the walk back has taken so far -/
def tkL (ds : List Deed) : List Deed := ds.filterMap fun d => match d with | .put x k _ => if x = "q" then some (.take "s" "s" k) else none | _ => none
theorem tkL_app (a b : List Deed) : tkL (a ++ b) = tkL a ++ tkL b := List.filterMap_append ..
theorem tk_chain (ks : List Nat) : tkL (chainD ks).reverse = ks.reverse.map fun j => .take "s" "s" (ptK j) := by
  induction ks with
  | nil => rfl
  | cons j r ih =>
    have e : chainD (j :: r) = [.make "q" (kdS j), .put "q" (ptK j) "p", .copy "p" "q"] ++ chainD r := rfl
    rw [e, List.reverse_append, tkL_app, ih, show (j :: r).reverse = r.reverse ++ [j] from List.reverse_cons, List.map_append]
    congr 1
theorem tk_first (ks : List Nat) : tkL (firstD ks).reverse = ks.reverse.map fun j => .take "s" "s" (ptK j) := by
  unfold firstD
  rw [List.reverse_append, List.reverse_append, tkL_app, tkL_app, tk_chain]
  have e1 : tkL ([.make "v" "row", .put "w" (.inr "d") "v", .drop "q"] : List Deed).reverse = [] := by
    show tkL [.drop "q", .put "w" (.inr "d") "v", .make "v" "row"] = []
    have : (if ("w" : Str) = "q" then some (Deed.take "s" "s" (.inr "d")) else none) = none := if_neg (by decide +kernel)
    unfold tkL
    rw [List.filterMap_cons, List.filterMap_cons]
    simp only [this]
    rfl
  have e2 : tkL ([.make "w" "record", .make "p" "record"] : List Deed).reverse = [] := rfl
  rw [e1, e2, List.nil_append, List.append_nil]
theorem first_len (ks : List Nat) : (firstD ks).length = 3 * ks.length + 5 := by
  unfold firstD
  rw [List.length_append, List.length_append, chain_len]
  simp only [List.length_cons, List.length_nil]; omega
theorem Paired.rev {α β : Type} {R : α → β → Prop} : ∀ {xs : List α} {ys : List β}, Paired R xs ys → Paired R xs.reverse ys.reverse
  | _, _, .nil => .nil
  | _, _, .cons h t => by
    rw [List.reverse_cons, List.reverse_cons]
    exact Paired.app (Paired.rev t) (.cons h .nil)
theorem tk_len (ds : List Deed) : (tkL ds).length ≤ ds.length := List.length_filterMap_le ..
theorem ok__law_down (T : Tx w K mg) : DefOk ⟨P, w, K, mg, base⟩ 1 (ga K "_law_down") ["_law_h", "_law_first_here"] spLDown := by
  refine DefOk.mk' (f__law_down T) sc__law_down (fun _ _ _ _ _ _ us hl => match us, hl with | [_, _], _ => rfl) (fun vs H Q E h => ?_) (fun cdv A outer s H vs Q E hr h => ?_)
  · obtain ⟨h, r, ks, rfl, _⟩ := h
    rfl
  · obtain ⟨h, r, ks, rfl, dl, d5, k⟩ := h
    have hu := hu_of hr
    refine ⟨_, (pss_cons (ps_set (i := 2) sc__law_down.nd rfl (Or.inl rfl) (pe_lst (pa_cons (pe_tup (pa_cons pe_str (pa_cons pe_str (pa_cons pe_str pa_nil)))) pa_nil))) (pss_cons (ps_for PassesOwn.never rfl (pi_list (pe_revL (pv 1))) (pg_name (i := 3) sc__law_down.nd rfl (Or.inl rfl)) (pss_one (ps_if (PW.pt (pw_and (pt_cmpR op_eq (pe_ix ix_tup (pv 3) pe_int (fun _ _ => rfl)) pe_str (nomark _)) (pw_and1 (pt_cmpR op_eq (pe_ix ix_tup (pv 3) pe_int (fun _ _ => rfl)) pe_str (nomark _))))) (pss_one (ps_expr (pe_bm PySem.F.plainAttrs_list PySem.F.slot_list_append PySem.F.type_list_append mt_append (pv 2) (pa_cons (pe_tup (pa_cons pe_str (pa_cons pe_str (pa_cons pe_str (pa_cons (pe_ix ix_tup (pv 3) pe_int (fun _ _ => rfl)) pa_nil))))) pa_nil)))) pss_nil))) (pss_one (ps_ret (pv 2))))), ?_⟩
    obtain ⟨ip, iq, is, it, iu, iv, iw⟩ := nm_in
    have x0 : TDs H H [] [] := TDs.nil
    refine ⟨by show 3 ≤ sizeLine; decide, fun t1 ht1 => ⟨by show 1 ≤ sizeLine; decide, fun f hf => ?_⟩⟩
    have x1 := x0.snoc (.copy "s" "p") ⟨is, ip⟩ ht1
    obtain ⟨sf, df⟩ := x1.lst hf
    have f0 : H f = none := x1.s.free hf
    have dl1 := dl.same sf
    show tSeq _ _ _ _ (upd (upd H t1 (tD (.copy "s" "p"))) f (.lst (([] ++ [t1]).map V.ref)))
    generalize upd (upd H t1 (tD (.copy "s" "p"))) f (.lst (([] ++ [t1]).map V.ref)) = H1 at sf df dl1 ⊢
    clear x1 x0 hf ht1 dl
    obtain ⟨ps, gr, pr⟩ := dl1
    have lp := Paired.length pr
    rw [first_len] at lp
    refine ⟨_, rfl, r, _, rfl, SqL.of gr, fun R hR => ?_⟩
    rw [← List.map_reverse]
    have sR := sf.trans (same_new (o := .lst (ps.reverse.map V.ref)) hR)
    have gR : upd H1 R (.lst (ps.reverse.map V.ref)) R = some (.lst (ps.reverse.map V.ref)) := upd_same
    have dfR := df.same (same_new (o := .lst (ps.reverse.map V.ref)) hR)
    have pR : Paired (DeedAt (upd H1 R (.lst (ps.reverse.map V.ref)))) ps.reverse (firstD ks).reverse := Paired.imp (fun _ _ z => z.same (same_new hR)) (Paired.rev pr)
    have nfR : f ≠ R := by
      obtain ⟨_, e, _⟩ := df
      exact ne_of_none e hR
    generalize upd H1 R (.lst (ps.reverse.map V.ref)) = H2 at sR gR dfR pR ⊢
    clear gr pr sf df hR
    refine ⟨R, rfl, ⟨_, SqL.of gR⟩, ?_⟩
    refine for_list (K := K) (a := R) (xs := ps.reverse.map V.ref) (fun i σ H' => ∃ x3 : Option V, σ = [some (.ref h), some (.ref r), some (.ref f), x3] ∧ Same H H' ∧ H' R = some (.lst (ps.reverse.map V.ref)) ∧ Paired (DeedAt H') ps.reverse (firstD ks).reverse ∧ DLa H' f ([.copy "s" "p"] ++ tkL ((firstD ks).reverse.take i)))
      ⟨_, rfl, sR, gR, pR, by rw [List.take_zero]; exact dfR⟩ (fun i σ H' _ ⟨_, _, _, g, _⟩ => SqL.of g) ?_ ?_
    · clear sR gR pR dfR
      rintro i y σ H3 hi ⟨x3, rfl, s3, gR, pR, dl⟩
      rw [List.getElem?_map] at hi
      obtain ⟨p, hpi, rfl⟩ := Option.map_eq_some_iff.mp hi
      obtain ⟨d, hdi, hd, hp⟩ : ∃ d, (firstD ks).reverse[i]? = some d ∧ d.ok ∧ H3 p = some (.tup (.str d.word :: d.args)) := by
        rcases Paired.at i pR with ⟨z, _⟩ | ⟨u, v, z1, z2, z3⟩
        · rw [hpi] at z; cases z
        · rw [hpi] at z1; cases z1; exact ⟨v, z2, z3.1, z3.2⟩
      have il := (List.getElem?_eq_some_iff.mp hpi).1
      rw [List.length_reverse] at il
      have sn : (firstD ks).reverse.take (i + 1) = (firstD ks).reverse.take i ++ [d] := WB.take_snoc hdi
      have stay : tkL [d] = [] → ∃ x3 : Option V, [some (.ref h), some (.ref r), some (.ref f), some (V.ref p)] = [some (.ref h), some (.ref r), some (.ref f), x3] ∧ Same H H3 ∧ H3 R = some (.lst (ps.reverse.map V.ref)) ∧ Paired (DeedAt H3) ps.reverse (firstD ks).reverse ∧ DLa H3 f ([.copy "s" "p"] ++ tkL ((firstD ks).reverse.take (i + 1))) := fun e => by
        refine ⟨_, rfl, s3, gR, pR, ?_⟩
        rw [sn, tkL_app, e, List.append_nil]
        exact dl
      refine ⟨_, rfl, p, _, 0, _, rfl, rfl, SqT.of hp, atI_nat (j := 0) rfl, rfl, _, rfl, ?_⟩
      have nput : d.word ≠ "put" → tkL [d] = [] := fun e => by
        cases d <;> first | rfl | exact absurd rfl e
      by_cases e : d.word = "put"
      · obtain ⟨x, kk, y, rfl⟩ : ∃ x kk y, d = .put x kk y := by
          have : ∀ i : Fin 12, wordsS.getD i "" = ("put" : Str) → (i : Nat) = 4 := by decide +kernel
          have t4 : d.tag = 4 := this ⟨d.tag, by cases d <;> exact Nat.le_of_ble_eq_true rfl⟩ e
          cases d <;> first | exact ⟨_, _, _, rfl⟩ | (exfalso; simp [Deed.tag] at t4)
        refine if_t (decide_eq_true (by rw [e])) ?_
        refine ⟨_, rfl, p, _, 1, .str x, rfl, rfl, SqT.of hp, atI_nat (j := 1) rfl, rfl, _, rfl, ?_⟩
        by_cases ex : x = "q"
        · refine if_t (decide_eq_true (by rw [ex])) ?_
          obtain ⟨fs, gf, pf⟩ := dl
          have lf := Paired.length pf
          rw [List.length_append, List.length_singleton] at lf
          have lt := tk_len ((firstD ks).reverse.take i)
          rw [List.length_take, List.length_reverse, first_len] at lt
          refine ⟨_, rfl, .inl ⟨rfl, _, SqL.of gf⟩, _, rfl, p, _, 3 - 1, kV kk, rfl, rfl, SqT.of hp, atI_nat (j := 2) rfl, by show 4 ≤ sizeLine; decide, fun t ht => ?_⟩
          have gf3 := same_new (o := .tup [V.str "take", V.str "s", V.str "s", kV kk]) ht _ _ gf
          have pf3 : Paired (DeedAt (upd H3 t (.tup [V.str "take", V.str "s", V.str "s", kV kk]))) fs _ := Paired.imp (fun _ _ z => z.same (same_new ht)) pf
          have tk3 : DeedAt (upd H3 t (.tup [V.str "take", V.str "s", V.str "s", kV kk])) t (.take "s" "s" kk) := ⟨⟨is, is, hd.2.1⟩, upd_same⟩
          have s3' := s3.trans (same_new (o := .tup [V.str "take", V.str "s", V.str "s", kV kk]) ht)
          have gR3 := same_new (o := .tup [V.str "take", V.str "s", V.str "s", kV kk]) ht _ _ gR
          have pR3 : Paired (DeedAt (upd H3 t (.tup [V.str "take", V.str "s", V.str "s", kV kk]))) ps.reverse (firstD ks).reverse := Paired.imp (fun _ _ z => z.same (same_new ht)) pR
          refine ⟨f, _, _, rfl, rfl, gf3, szl (by rw [List.length_map]; omega), ?_⟩
          generalize upd H3 t (.tup [V.str "take", V.str "s", V.str "s", kV kk]) = H4 at gf3 pf3 tk3 s3' gR3 pR3 ⊢
          have tp : Tup H4 (upd H4 f (.lst (fs.map V.ref ++ [V.ref t]))) := tup_upd (by rw [gf3]; intro xs z; cases z; rfl)
          refine ⟨_, rfl, same_mut s3' f0, by rw [upd_ne nfR.symm]; exact gR3, Paired.imp (fun _ _ z => z.tup tp) pR3, fs ++ [t], by rw [upd_same, List.map_append]; rfl, ?_⟩
          have e5 : tkL [Deed.put x kk y] = [.take "s" "s" kk] := by
            unfold tkL
            rw [List.filterMap_cons]
            simp only [if_pos ex]
            rfl
          rw [sn, tkL_app, e5, ← List.append_assoc]
          exact Paired.app (Paired.imp (fun _ _ z => z.tup tp) pf3) (.cons (tk3.tup tp) .nil)
        · refine if_f (decide_eq_false fun z => ex (V.str.inj z)) ?_
          refine stay ?_
          unfold tkL
          rw [List.filterMap_cons]
          simp only [if_neg ex]
          rfl
      · exact if_f (decide_eq_false fun z => e (V.str.inj z)) (if_f rfl (stay (nput e)))
    · rintro σ H3 ⟨x3, rfl, s3, gR, pR, dl⟩
      rw [List.length_map, List.length_reverse, show (firstD ks).reverse.take ps.length = (firstD ks).reverse from List.take_of_length_le (by rw [List.length_reverse, first_len]; omega), tk_first] at dl
      exact ⟨_, rfl, k f H3 s3 f0 dl⟩
def spLaw0 (K : PySem.W.Frag) : Sp := fun vs H Q _ => ∃ (a : Addr) (xs : List Int), vs = [.ref a] ∧ SqL K H a (xs.map V.int) ∧ xs.length ≤ 100 ∧ ∀ H', Q (.bl true) H'
theorem kd2_at : ∀ e, e < 2 → ([V.str "record", V.str "book"] : List V)[e]? = some (.str (kd2 e))
  | 0, _ => rfl
  | 1, _ => rfl
  | n + 2, h => absurd h (by omega)
theorem pt2_at : ∀ e, e < 2 → ∃ j : Nat, (if decide (V.str (kd2 e) = V.str "book") = true then (1 : Int) else 0) = (j : Int) ∧ ([V.str "a", V.int 4] : List V)[j]? = some (kV (pt2 e))
  | 0, _ => ⟨0, by rw [if_neg (by decide +kernel)]; rfl, rfl⟩
  | 1, _ => ⟨1, by rw [if_pos (by decide +kernel)]; rfl, rfl⟩
  | n + 2, h => absurd h (by omega)
theorem down_len (ks : List Nat) : (downD ks).length = ks.length + 1 := by unfold downD; rw [List.length_cons, List.length_map, List.length_reverse]
theorem again_len (ks : List Nat) (e : Nat) : (againD ks e).length = ks.length + 8 := by
  unfold againD endD
  rw [List.length_append, List.length_append, down_len]
  simp only [List.length_cons, List.length_nil]
theorem snL_snoc {many : Nat} {sn : Nat → Snap} (h : 1 ≤ many) : snL many sn = snL (many - 1) sn ++ [sn (many - 1)] := by
  unfold snL
  rw [show many = many - 1 + 1 by omega, List.range_succ, List.map_append]; rfl
theorem snL_len {m : Nat} {sn : Nat → Snap} : (snL m sn).length = m := by unfold snL; rw [List.length_map, List.length_range]
theorem leak_ok {many : Nat} {sn : Nat → Snap} (h : ∀ i, i < many → PhoOk (sn i).1 (sn i).2) (m1 : 1 ≤ many) : ∀ s ∈ snL (many - 1) sn ++ [sn (many - 1)], PhoOk s.1 s.2 := fun s hs => by
  rw [← snL_snoc m1] at hs
  unfold snL at hs
  obtain ⟨i, hi, rfl⟩ := List.mem_map.mp hs
  exact h i (List.mem_range.mp hi)
theorem leak_in {H0 H : Hp} {N : Addr → Prop} {qs : List Addr} {lt : Nat → Addr} {d1 d2 : List Deed} {many Ln : Nat} {lo hi : Nat → Nat} {z : Nat → Int} {zn : Int} (t : Tn Ln (fun i => (stT d1 d2 i, Ks Ln (lo i) (hi i))) lo hi z zn)
    (t1 : ∀ d ∈ d1, tame d) (t2 : ∀ d ∈ d2, tame d) (m2 : 2 ≤ many) (sz : ∀ i, i < many → Ln + 3 + hi i ≤ 1000) (lq : qs.length = many) (ph : ∀ i q, qs[i]? = some q → PhoTurn H0 N H q d1 d2 i lt) :
    ∃ qs0 q, qs = qs0 ++ [q] ∧ qs[0]? = some (qs.getD 0 0) ∧ PhoAt H (qs.getD 0 0) (stT d1 d2 0) (Ks Ln (lo 0) (hi 0)) ∧ Paired (fun q s => PhoAt H q s.1 s.2) (qs0 ++ [q]) (snL (many - 1) (fun i => (stT d1 d2 i, Ks Ln (lo i) (hi i))) ++ [(stT d1 d2 (many - 1), Ks Ln (lo (many - 1)) (hi (many - 1)))]) ∧ (∀ i, i < many → PhoOk (stT d1 d2 i) (Ks Ln (lo i) (hi i))) ∧ PhoAt H q (stT d1 d2 (many - 1)) (Ks Ln (lo (many - 1)) (hi (many - 1))) := by
  have at_ : ∀ i q, qs[i]? = some q → PhoAt H q (stT d1 d2 i) (Ks Ln (lo i) (hi i)) := fun i q h => turn_of (ph i q h) (fun d hd => (t1 d hd).2) (fun d hd => (t2 d hd).2) (t.g i)
  have ok : ∀ i, i < many → PhoOk (stT d1 d2 i) (Ks Ln (lo i) (hi i)) := fun i hi => pho_ok (fun d hd => (t1 d hd).1) (fun d hd => (t2 d hd).1) (fun d hd => (t1 d hd).2) (fun d hd => (t2 d hd).2) (t.g i) (sz i hi)
  have pr : Paired (fun q s => PhoAt H q s.1 s.2) qs (snL many fun i => (stT d1 d2 i, Ks Ln (lo i) (hi i))) := by
    unfold snL
    refine Paired.mapR _ ?_
    have key : ∀ (l : List Addr) (s : Nat), (∀ i q, l[i]? = some q → PhoAt H q (stT d1 d2 (s + i)) (Ks Ln (lo (s + i)) (hi (s + i)))) → Paired (fun q i => PhoAt H q (stT d1 d2 i) (Ks Ln (lo i) (hi i))) l (List.range' s l.length) := by
      intro l
      induction l with
      | nil => intro s _; exact .nil
      | cons a r ih =>
        intro s h
        refine .cons (h 0 a rfl) (ih (s + 1) fun i q hq => ?_)
        have := h (i + 1) q hq
        rw [show s + (i + 1) = s + 1 + i by omega] at this
        exact this
    rw [List.range_eq_range', ← lq]
    exact key qs 0 fun i q h => by rw [Nat.zero_add]; exact at_ i q h
  rw [snL_snoc (by omega)] at pr
  obtain ⟨qs0, q, e, p1, p2⟩ := Paired.unsnoc pr
  refine ⟨qs0, q, e, ?_, ?_, by rw [← e]; exact pr, ok, p2⟩
  · rw [List.getD_eq_getElem?_getD, List.getElem?_eq_getElem (by omega)]; rfl
  · refine at_ 0 _ ?_
    rw [List.getD_eq_getElem?_getD, List.getElem?_eq_getElem (by omega)]; rfl
theorem other_len (ks : List Nat) (e : Nat) : (otherD ks e).length = ks.length + 7 := by
  unfold otherD endD
  rw [List.length_append, List.length_append, down_len]
  simp only [List.length_cons, List.length_nil]
theorem deed_shaped {d : Deed} (h : d.ok) : SeqAt.shaped (deedD d) = true := by
  obtain ⟨t1, t2⟩ := deeds_lay (ds := [d]) fun x hx => by rw [List.mem_singleton.mp hx]; exact h
  show (PyData.canLay0 (deedD d) && decide (PyData.depth (deedD d) ≤ 64)) = true
  simp only [List.map_cons, List.map_nil, PyData.canLayAll0, PyData.depthAll, Bool.and_eq_true] at t1 t2
  rw [Bool.and_eq_true]
  exact ⟨t1.1, decide_eq_true (by omega)⟩
/-- not the deed by which the new thing gets the one ahead -/
def keepB (e : Nat) (d : Deed) : Bool := !(PyData.eqv (deedD d) (deedD (.put "t" (pt2 e) "u")))
theorem kb_take : ∀ (e j : Nat), keepB e (.take "s" "s" (ptK j)) = true
  | 0, 0 => by decide +kernel
  | 0, 1 => by decide +kernel
  | 0, j + 2 => by kernel_rfl
  | e + 1, 0 => by kernel_rfl
  | e + 1, 1 => by kernel_rfl
  | e + 1, j + 2 => by kernel_rfl
theorem kb_some : ∀ (e : Nat), keepB e (.copy "s" "p") = true ∧ keepB e (.make "t" (kd2 e)) = true ∧ keepB e (.take "u" "s" (.inr "a")) = true ∧ keepB e (.put "t" (pt2 e) "u") = false ∧ keepB e (.put "s" (.inr "a") "t") = true ∧ keepB e (.drop "s") = true ∧ keepB e (.drop "t") = true ∧ keepB e (.drop "u") = true
  | 0 => by decide +kernel
  | e + 1 => ⟨by kernel_rfl, by kernel_rfl, by kernel_rfl, by kernel_rfl, by kernel_rfl, by kernel_rfl, by kernel_rfl, by kernel_rfl⟩
theorem filt_again (ks : List Nat) (e : Nat) : (againD ks e).filter (keepB e) = otherD ks e := by
  obtain ⟨k1, k2, k3, k4, k5, k6, k7, k8⟩ := kb_some e
  unfold againD otherD endD
  rw [List.filter_append, List.filter_append]
  have e1 : (downD ks).filter (keepB e) = downD ks := List.filter_eq_self.mpr fun d hd => by
    rcases List.mem_cons.mp hd with rfl | hd
    · exact k1
    · obtain ⟨j, _, rfl⟩ := List.mem_map.mp hd
      exact kb_take e j
  rw [e1, List.filter_cons_of_pos k2, List.filter_cons_of_pos k3, List.filter_cons_of_neg (by rw [k4]; decide), List.filter_cons_of_pos k5, List.filter_cons_of_pos k6, List.filter_cons_of_pos k7, List.filter_cons_of_pos k8]
  rfl
theorem nV_good25 (ks : List Nat) : ∀ v ∈ nV ks, goodD v = true := fun v hv => by obtain ⟨k, _, rfl⟩ := List.mem_map.mp hv; rfl
theorem nV_dp25 {H : Hp} {a : Addr} {ks : List Nat} (e : H a = some (.lst (nV ks))) : Dp K H (.ref a) (.list ((nV ks).map argD)) := .lst (SqL.of e) (args_dp (nV_good25 ks))
theorem nV_refl25 (ks : List Nat) : PyData.eqv (.list ((nV ks).map argD)) (.list ((nV ks).map argD)) = true := SeqAt.eqv_refl _ (by simp only [PyData.canLay0]; exact (args_lay (nV_good25 ks)).1)
theorem fn_law (T : Tx w K mg) {fd : FuncData} (F : FunD K "law" "law" (defArgs s_law) (defBody s_law) (defScope s_law) [] [] (ga K "law") fd) : FnOk P w K mg base CX0 11 (ga K "law") fd ["_law_script"] (spLaw0 K) := by
  refine fn_mk F sc_law (fun vs H Q E h => ?_) (fun cdv A outer s H vs Q E hr h => ?_)
  · obtain ⟨a, xs, rfl, _⟩ := h
    rfl
  · obtain ⟨a, xs, rfl, ha, lx, k⟩ := h
    have hu := hu_of hr
    refine ⟨_, (pss_cons (ps_set (i := 1) sc_law.nd rfl (Or.inl rfl) (pe_cg (M := ⟨P, w, K, mg, base⟩) rfl hr rfl (pa_cons (pv 0) (pa_cons pe_int pa_nil)))) (pss_cons (ps_set (i := 2) sc_law.nd rfl (Or.inl rfl) (pe_cg (M := ⟨P, w, K, mg, base⟩) rfl hr rfl (pa_cons (pv 1) (pa_cons pe_int pa_nil)))) (pss_cons (ps_set (i := 3) sc_law.nd rfl (Or.inl rfl) (pe_cg (M := ⟨P, w, K, mg, base⟩) rfl hr rfl (pa_cons (pv 1) (pa_cons (pv 2) pa_nil)))) (pss_cons (ps_set (i := 4) sc_law.nd rfl (Or.inl rfl) (pe_cg (M := ⟨P, w, K, mg, base⟩) rfl hr rfl (pa_cons (pv 1) (pa_cons (pv 3) pa_nil)))) (pss_cons (ps_set (i := 5) sc_law.nd rfl (Or.inl rfl) (pe_ix ix_list (pe_lst (pa_cons pe_str (pa_cons pe_str pa_nil))) (pe_cg (M := ⟨P, w, K, mg, base⟩) rfl hr rfl (pa_cons (pv 1) (pa_cons pe_int pa_nil))) (fun _ _ => rfl))) (pss_cons (ps_set (i := 6) sc_law.nd rfl (Or.inr rfl) (pe_ix ix_list (pe_lst (pa_cons pe_str (pa_cons pe_int pa_nil))) (pe_callTy call_int1 (by rfl) (z_int T) (by decide +kernel) (pa_cons (pe_cmpR op_eq (pv 5) pe_str (nomark _)) pa_nil)) (fun _ _ => rfl))) (pss_cons (ps_set (i := 7) sc_law.nd rfl (Or.inl rfl) (pe_op op_cat (pv 4) (pe_lst (pa_cons (pe_tup (pa_cons pe_str (pa_cons pe_str (pa_cons (pv 5) pa_nil)))) (pa_cons (pe_tup (pa_cons pe_str (pa_cons pe_str (pa_cons pe_str (pa_cons pe_str pa_nil))))) (pa_cons (pe_tup (pa_cons pe_str (pa_cons pe_str (pa_cons (pv 6) (pa_cons pe_str pa_nil))))) (pa_cons (pe_tup (pa_cons pe_str (pa_cons pe_str (pa_cons pe_str (pa_cons pe_str pa_nil))))) pa_nil))))))) (pss_cons (ps_set (i := 7) sc_law.nd rfl (Or.inl rfl) (pe_op op_cat (pv 7) (pe_lst (pa_cons (pe_tup (pa_cons pe_str (pa_cons pe_str pa_nil))) (pa_cons (pe_tup (pa_cons pe_str (pa_cons pe_str pa_nil))) (pa_cons (pe_tup (pa_cons pe_str (pa_cons pe_str pa_nil))) pa_nil)))))) (pss_cons (ps_set (i := 8) sc_law.nd rfl (Or.inl rfl) (pe_op op_add pe_int (pe_cg (M := ⟨P, w, K, mg, base⟩) rfl hr rfl (pa_cons (pv 1) (pa_cons pe_int pa_nil))))) (pss_cons (ps_set (i := 9) sc_law.nd rfl (Or.inl rfl) (pe_cg (M := ⟨P, w, K, mg, base⟩) rfl hr rfl (pa_cons (pv 3) (pa_cons (pv 7) (pa_cons (pv 8) pa_nil))))) (pss_cons (ps_if (pt_cmpR (op_neD hr.units) (pe_cg (M := ⟨P, w, K, mg, base⟩) rfl hr rfl (pa_cons (pv 9) pa_nil)) (pe_lst (pa_cons pe_int pa_nil)) (nomark _)) (pss_one (ps_ret pe_bl)) pss_nil) (pss_cons (ps_asg (pe_cg (M := ⟨P, w, K, mg, base⟩) rfl hr rfl (pa_cons (pe_ix ix_list (pv 9) pe_int (fun _ _ => rfl)) (pa_cons (pe_ix ix_list (pv 9) (pe_un un_neg pe_int) (fun _ _ => rfl)) pa_nil))) (pg_tup rfl (pgs_cons (pg_name (i := 10) sc_law.nd rfl (Or.inl rfl)) (pgs_cons (pg_name (i := 11) sc_law.nd rfl (Or.inl rfl)) (pgs_cons (pg_name (i := 12) sc_law.nd rfl (Or.inl rfl)) pgs_nil))))) (pss_cons (ps_if (PW.pt (pw_or (pt_cmpR op_ne (pe_callB call_len_seq (by rfl) (z_len T) PySem.boot_len (pa_cons (pv 10) pa_nil)) (pe_op op_sub (pv 8) pe_int) (nomark _)) (pw_or (pt_cmpR (op_neD hr.units) (pv 11) (pe_lst pa_nil) (nomark _)) (pw_or1 (pt_cmpR op_ne (pe_lenSetC rfl (by rfl) (z_len T) (by rfl) (z_set T) (pe_lc (own := [("_law_number", 13), ("_law_by", 14)]) (g := (gTup K 2 (gCons (gName 13) (gCons (gName 14) gNil)))) rfl sc_law.nd (pi_list (pv 12)) (blkOk_by (own := [("_law_number", 13), ("_law_by", 14)]) (N := ["_law_script", "_law_h", "_law_deep", "_law_first_here", "_law_down_here", "_law_kind", "_law_part", "_law_again", "_law_many", "_law_photos", "_law_new", "_law_gone", "_law_grown", "_law_number", "_law_by", "_law_deed", "_law_other"]) (sc := defScope s_law) (by decide +kernel)) (fun _ _ _ _ _ => (pg_tupK (K := K) rfl rfl (pgs_cons (pg_name (i := 13) sc_law.nd rfl (Or.inl rfl)) (pgs_cons (pg_name (i := 14) sc_law.nd rfl (Or.inl rfl)) pgs_nil)))) (fun _ _ _ _ _ => by exact pts_nil) (fun _ _ _ _ _ => by exact (pv 14)))) pe_int (nomark _)))))) (pss_one (ps_ret pe_bl)) pss_nil) (pss_cons (ps_if (pt_cmpR (op_neD hr.units) (pe_callB cr_sortedI (by rfl) (z_sorted T) (by decide +kernel) (pa_cons (pe_lc (own := [("_law_number", 13), ("_law_by", 14)]) (g := (gTup K 2 (gCons (gName 13) (gCons (gName 14) gNil)))) rfl sc_law.nd (pi_list (pv 12)) (blkOk_by (own := [("_law_number", 13), ("_law_by", 14)]) (N := ["_law_script", "_law_h", "_law_deep", "_law_first_here", "_law_down_here", "_law_kind", "_law_part", "_law_again", "_law_many", "_law_photos", "_law_new", "_law_gone", "_law_grown", "_law_number", "_law_by", "_law_deed", "_law_other"]) (sc := defScope s_law) (by decide +kernel)) (fun _ _ _ _ _ => (pg_tupK (K := K) rfl rfl (pgs_cons (pg_name (i := 13) sc_law.nd rfl (Or.inl rfl)) (pgs_cons (pg_name (i := 14) sc_law.nd rfl (Or.inl rfl)) pgs_nil)))) (fun _ _ _ _ _ => by exact pts_nil) (fun _ _ _ _ _ => by exact (pv 13))) pa_nil)) (pe_op op_cat (pe_lst (pa_cons pe_int pa_nil)) (pe_callTy (call_list_rngL rfl) (by rfl) (z_list T) (by decide +kernel) (pa_cons (pe_callTy cr_range2 (by rfl) (z_range T) (by decide +kernel) (pa_cons pe_int (pa_cons (pe_op op_add pe_int (pv 2)) pa_nil))) pa_nil))) (nomark _)) (pss_one (ps_ret pe_bl)) pss_nil) (pss_cons (ps_setLc (i := 16) (own := [("_law_deed", 15)]) (g := (gName 15)) rfl sc_law.nd rfl rfl (sw_true rfl rfl rfl (by decide +kernel)) (pi_list (pv 7)) (blkOk_by (own := [("_law_deed", 15)]) (N := ["_law_script", "_law_h", "_law_deep", "_law_first_here", "_law_down_here", "_law_kind", "_law_part", "_law_again", "_law_many", "_law_photos", "_law_new", "_law_gone", "_law_grown", "_law_number", "_law_by", "_law_deed", "_law_other"]) (sc := defScope s_law) (by decide +kernel)) (fun _ _ _ _ _ => (pg_name (i := 15) sc_law.nd rfl (Or.inl rfl))) (fun _ _ _ _ _ => by exact (pts_one (pt_cmpR (opK (fun K => rNeD K) (K := K) rfl (op_neD hr.units)) (pv 15) (pe_tup (pa_cons pe_str (pa_cons pe_str (pa_cons (pv 6) (pa_cons pe_str pa_nil))))) (nomark _)))) (fun _ _ _ _ _ => by exact (pv 15))) (pss_one (ps_ret (pe_and (pe_cmpR (op_eqD hr.units) (pe_cg (M := ⟨P, w, K, mg, base⟩) rfl hr rfl (pa_cons (pe_cg (M := ⟨P, w, K, mg, base⟩) rfl hr rfl (pa_cons (pv 3) (pa_cons (pv 16) (pa_cons (pv 8) pa_nil)))) pa_nil)) (pe_lst pa_nil) (nomark _)) (pe_one (pe_cmpR (op_eqD hr.units) (pe_cg (M := ⟨P, w, K, mg, base⟩) rfl hr rfl (pa_cons (pe_cg (M := ⟨P, w, K, mg, base⟩) rfl hr rfl (pa_cons (pv 3) (pa_cons (pe_op op_cat (pv 4) (pe_lst (pa_cons (pe_tup (pa_cons pe_str (pa_cons pe_str pa_nil))) pa_nil))) (pa_cons (pv 8) pa_nil)))) pa_nil)) (pe_lst pa_nil) (nomark _))))))))))))))))))))), ?_⟩
    obtain ⟨ip, iq, is, it, iu, iv, iw⟩ := nm_in
    have two : ∀ {h ls b : Addr}, b ≠ h → b ≠ ls → b ∉ [h, ls] := fun h1 h2 z => (List.mem_cons.mp z).elim h1 fun z => h2 (List.mem_singleton.mp z)
    refine ⟨_, _, _, _, g__law_mix T, ok__law_mix T, by decide, _, rfl, a, xs, 101, rfl, ha, lx, fun h ls H1 s1 nh nl num => ?_⟩
    refine ⟨_, _, _, _, g__law_next T, ok__law_next T, by decide, _, rfl, h, ls, 6, rfl, num, by decide, by decide, fun v H2 v0 v1 st2 num => ?_⟩
    obtain ⟨deep, rfl⟩ := nat_of v0
    clear st2 s1 nh nl
    refine ⟨_, _, _, _, g__law_first T, ok__law_first T, by decide, _, rfl, _, rfl, h, ls, deep, rfl, num, by omega, fun F H3 ks st3 num3 F0 lks dF => ?_⟩
    have nF : F ∉ [h, ls] := NumAt.fresh num F0
    have lk5 : ks.length ≤ 5 := by omega
    refine ⟨_, _, _, _, g__law_down T, ok__law_down T, by decide, _, rfl, _, rfl, h, F, ks, rfl, dF, lk5, fun D H4 s4 D0 dD => ?_⟩
    have num4 := num3.same s4
    have nD : D ∉ [h, ls] := NumAt.fresh num3 D0
    have dF4 := dF.same s4
    clear dF num3 s4 st3 num D0 F0
    refine ⟨by show 2 ≤ sizeLine; decide, fun q hq => ?_⟩
    have s5 := same_new (o := .lst [V.str "record", V.str "book"]) hq
    have num5 := num4.same s5
    refine ⟨_, _, _, _, g__law_next T, ok__law_next T, by decide, _, rfl, h, ls, 2, rfl, num5, by decide, by decide, fun v H6 v0 v1 st6 num6 => ?_⟩
    obtain ⟨e, rfl⟩ := nat_of v0
    have e2 : e < 2 := by omega
    have g6 := st6 _ _ (upd_same (H := H4) (a := q)) (NumAt.fresh num4 hq)
    refine ⟨q, _, e, _, rfl, rfl, SqL.of g6, atI_nat (kd2_at e e2), ?_⟩
    have dF6 := (dF4.same s5).stp st6 (NumAt_tup num5 st6) nF
    have dD6 := (dD.same s5).stp st6 (NumAt_tup num5 st6) nD
    clear dF4 dD st6 g6 num5 s5 hq num4
    obtain ⟨jp, ej, hj⟩ := pt2_at e e2
    refine ⟨by show 2 ≤ sizeLine; decide, fun q2 hq2 => ?_⟩
    have s7 := same_new (o := .lst [V.str "a", V.int 4]) hq2
    have g7 : upd H6 q2 (.lst [V.str "a", V.int 4]) q2 = some (.lst [V.str "a", V.int 4]) := upd_same
    have num7 := num6.same s7
    have dF7 := dF6.same s7
    have dD7 := dD6.same s7
    generalize upd H6 q2 (.lst [V.str "a", V.int 4]) = H7 at s7 g7 num7 dF7 dD7 ⊢
    clear s7 dF6 dD6 num6 hq2
    refine ⟨_, rfl, rfl, .inr ⟨_, rfl, q2, _, _, kV (pt2 e), rfl, rfl, SqL.of g7, (by rw [ej]; exact atI_nat hj), ?_⟩⟩
    clear g7 hj ej
    -- the deeds of each turn
    have x0 : TDs H7 H7 [] [] := TDs.nil
    refine ⟨_, rfl, ?_⟩
    refine ⟨_, rfl, by show 3 ≤ sizeLine; decide, fun t1 ht1 => ⟨by show 4 ≤ sizeLine; decide, fun t2 ht2 => ⟨_, rfl, by show 4 ≤ sizeLine; decide, fun t3 ht3 => ⟨by show 4 ≤ sizeLine; decide, fun t4 ht4 => ⟨by show 4 ≤ sizeLine; decide, fun l hl => ?_⟩⟩⟩⟩⟩
    have x4 := (((x0.snoc (.make "t" (kd2 e)) ⟨it, kd2_ok e⟩ ht1).snoc (.take "u" "s" (.inr "a")) ⟨iu, is, pt2_ok 0⟩ ht2).snoc (.put "t" (pt2 e) "u") ⟨it, pt2_ok e, iu⟩ ht3).snoc (.put "s" (.inr "a") "t") ⟨is, pt2_ok 0, it⟩ ht4
    obtain ⟨sl, ts, gl, pl⟩ := x4.lst hl
    show rCat (.ref D) (.ref l) (upd (upd (upd (upd (upd H7 t1 (tD (.make "t" (kd2 e)))) t2 (tD (.take "u" "s" (.inr "a")))) t3 (tD (.put "t" (pt2 e) "u"))) t4 (tD (.put "s" (.inr "a") "t"))) l (.lst (([] ++ [t1] ++ [t2] ++ [t3] ++ [t4]).map V.ref))) _
    generalize upd (upd (upd (upd (upd H7 t1 (tD (.make "t" (kd2 e)))) t2 (tD (.take "u" "s" (.inr "a")))) t3 (tD (.put "t" (pt2 e) "u"))) t4 (tD (.put "s" (.inr "a") "t"))) l (.lst (([] ++ [t1] ++ [t2] ++ [t3] ++ [t4]).map V.ref)) = H8 at sl gl pl ⊢
    have num8 := num7.same sl
    have dF8 := dF7.same sl
    have dD8 := dD7.same sl
    clear x4 x0 hl ht4 ht3 ht2 ht1 dF7 dD7 num7 sl
    have lts := Paired.length pl
    simp only [List.length_append, List.length_cons, List.length_nil] at lts
    obtain ⟨ps, gD, pD⟩ := id dD8
    have lps := Paired.length pD
    rw [down_len] at lps
    refine ⟨D, l, _, _, rfl, rfl, gD, gl, by rw [List.length_map, List.length_map]; exact Nat.le_of_lt (szl (by omega)), fun r1 hr1 => ?_⟩
    have dr := cat_dl hr1 pD pl
    have s9 := same_new (o := .lst (ps.map V.ref ++ ts.map V.ref)) hr1
    have num9 := num8.same s9
    have dF9 := dF8.same s9
    have dD9 := dD8.same s9
    generalize upd H8 r1 (.lst (ps.map V.ref ++ ts.map V.ref)) = H9 at s9 dr num9 dF9 dD9 ⊢
    clear s9 hr1 gD pD gl pl lts lps dF8 dD8 num8
    have x0 : TDs H9 H9 [] [] := TDs.nil
    refine ⟨_, rfl, ?_⟩
    refine ⟨by show 2 ≤ sizeLine; decide, fun t1 ht1 => ⟨by show 2 ≤ sizeLine; decide, fun t2 ht2 => ⟨by show 2 ≤ sizeLine; decide, fun t3 ht3 => ⟨by show 3 ≤ sizeLine; decide, fun l hl => ?_⟩⟩⟩⟩
    have x3 := ((x0.snoc (.drop "s") is ht1).snoc (.drop "t") it ht2).snoc (.drop "u") iu ht3
    obtain ⟨sl, ts, gl, pl⟩ := x3.lst hl
    show rCat (.ref r1) (.ref l) (upd (upd (upd (upd H9 t1 (tD (.drop "s"))) t2 (tD (.drop "t"))) t3 (tD (.drop "u"))) l (.lst (([] ++ [t1] ++ [t2] ++ [t3]).map V.ref))) _
    generalize upd (upd (upd (upd H9 t1 (tD (.drop "s"))) t2 (tD (.drop "t"))) t3 (tD (.drop "u"))) l (.lst (([] ++ [t1] ++ [t2] ++ [t3]).map V.ref)) = H10 at sl gl pl ⊢
    have num10 := num9.same sl
    have dF10 := dF9.same sl
    have dD10 := dD9.same sl
    have dr10 := dr.same sl
    clear x3 x0 hl ht3 ht2 ht1 dF9 dD9 num9 sl dr
    have lts := Paired.length pl
    simp only [List.length_append, List.length_cons, List.length_nil] at lts
    obtain ⟨ps, gD, pD⟩ := dr10
    have lps := Paired.length pD
    rw [List.length_append, down_len] at lps
    simp only [List.length_append, List.length_cons, List.length_nil] at lps
    refine ⟨r1, l, _, _, rfl, rfl, gD, gl, by rw [List.length_map, List.length_map]; exact Nat.le_of_lt (szl (by omega)), fun A hA => ?_⟩
    have dA : DLa (upd H10 A (.lst (ps.map V.ref ++ ts.map V.ref))) A (againD ks e) := cat_dl hA pD pl
    have s11 := same_new (o := .lst (ps.map V.ref ++ ts.map V.ref)) hA
    have nA : A ∉ [h, ls] := NumAt.fresh num10 hA
    have num11 := num10.same s11
    have dF11 := dF10.same s11
    have dD11 := dD10.same s11
    generalize upd H10 A (.lst (ps.map V.ref ++ ts.map V.ref)) = H11 at s11 dA num11 dF11 dD11 ⊢
    clear s11 hA gD pD gl pl lts lps dF10 dD10 num10
    -- how often
    refine ⟨_, _, _, _, g__law_next T, ok__law_next T, by decide, _, rfl, h, ls, 7, rfl, num11, by decide, by decide, fun v H12 v0 v1 st12 num12 => ?_⟩
    obtain ⟨m0, rfl⟩ := nat_of v0
    have dF := dF11.stp st12 (NumAt_tup num11 st12) nF
    have dD := dD11.stp st12 (NumAt_tup num11 st12) nD
    have dA := dA.stp st12 (NumAt_tup num11 st12) nA
    clear dF11 dD11 st12 num11 num12
    refine ⟨_, _, rfl, rfl, ?_⟩
    have em : (2 : Int) + (m0 : Int) = ((m0 + 2 : Nat) : Int) := by omega
    show (fun x H1 => gName 8 x [some (.ref a), some (.ref h), some (.int (deep : Int)), some (.ref F), some (.ref D), some (.str (kd2 e)), some (kV (pt2 e)), some (.ref A), none, none, none, none, none, none, none, none, none] H1 _) (V.int ((2 : Int) + (m0 : Int))) H12
    rw [em]
    have m9 : m0 + 2 ≤ 8 := by omega
    have m2 : 2 ≤ m0 + 2 := by omega
    generalize m0 + 2 = many at m9 m2 ⊢
    clear em
    obtain ⟨pF, gF, qF⟩ := id dF
    obtain ⟨pA, gA, qA⟩ := id dA
    have lF := Paired.length qF
    have lA := Paired.length qA
    rw [first_len] at lF
    rw [again_len] at lA
    refine ⟨_, _, _, _, g_growing T, ok_growing T, by decide, _, rfl, _, rfl, _, rfl, F, A, pF, pA, firstD ks, againD ks e, many, rfl, gF, gA, qF, qA, by omega, by omega, m2, m9, fun L H13 qs lt s13 nL gL lq ph => ?_⟩
    have tm := tn_main ks e
    obtain ⟨qs0, q0, eq0, at0, ph0, pr, pok, phl⟩ := leak_in tm (tame_first ks) (tame_again ks e) m2 (fun i hi => by show ks.length + 3 + (ks.length + 3 + (i + 1)) ≤ 1000; omega) lq ph
    subst eq0
    refine ⟨_, _, _, _, g_leak T, ok_leak T, by decide, _, rfl, L, qs0, _, q0, _, _, rfl, gL, pr, leak_ok pok (by omega), by rw [snL_len]; omega, by rw [snL_len]; omega, fun R H14 s14 nR gR => ?_⟩
    have el := tm.leak (szN_pos e) m2 (many - 1) (by omega)
    rw [snL_snoc (by omega)] at el
    rw [el] at gR
    clear el pr
    refine ⟨by show 1 ≤ sizeLine; decide, fun l1 hl1 => ?_⟩
    have s15 := s14.trans (same_new (o := .lst [V.int 1]) hl1)
    have gl1 : upd H14 l1 (.lst [V.int 1]) l1 = some (.lst [V.int 1]) := upd_same
    have gR5 := same_new (o := .lst [V.int 1]) hl1 _ _ gR
    generalize upd H14 l1 (.lst [V.int 1]) = H15 at s15 gl1 gR5 ⊢
    refine ⟨_, _, .lst (SqL.of gR5) (.cons (.int 1) .nil), .lst (SqL.of gl1) (.cons (.int 1) .nil), by decide +kernel, by decide +kernel, _, rfl, if_f (by decide +kernel) ?_⟩
    clear gR gR5 gl1 hl1 nR s14
    -- the first photo beside the last
    have gL5 : H15 L = some (.lst (qs0.map V.ref ++ [V.ref q0])) := by rw [s15 _ _ gL, List.map_append]; rfl
    have phf := ph0.same s15
    have phe := phl.same s15
    have e0 : ((qs0.map V.ref ++ [V.ref q0]) : List V)[0]? = some (V.ref ((qs0 ++ [q0]).getD 0 0)) := by
      rw [show qs0.map V.ref ++ [V.ref q0] = (qs0 ++ [q0]).map V.ref by rw [List.map_append]; rfl, List.getElem?_map, at0]; rfl
    refine ⟨_, _, _, _, g_compared T, ok_compared T, by decide, _, rfl, L, _, 0, _, rfl, rfl, SqL.of gL5, atI_nat (j := 0) e0, _, rfl, _, rfl, L, _, -1, V.ref q0, rfl, rfl, SqL.of gL5, at_last, _, _, _, _, _, _, rfl, phf, pok 0 (by omega), phe, pok (many - 1) (by omega), fun r H16 s16 ca => ?_⟩
    obtain ⟨ca1, cb, cc, eR, ea, eb, pc, _⟩ := ca
    have nw := tm.new (many - 1)
    have gw := tm.grown (szN_pos e) (i := many - 1) (by omega)
    rw [nw.1] at ea
    rw [nw.2] at eb
    rw [gw.1] at pc
    clear nw
    refine ⟨r, _, rfl, SqT.of eR, rfl, _, _, rfl, _, _, rfl, _, _, rfl, rfl, ?_⟩
    have lw : (nV (List.range' (ks.length + 4) (many - 1))).length = many - 1 := by unfold nV; rw [List.length_map, List.length_range']
    refine ⟨_, rfl, ca1, _, rfl, .inl (SqL.of ea), _, rfl, _, _, rfl, rfl, rfl, _, rfl, if_f (by rw [lw]; simp; omega) ?_⟩
    refine ⟨_, rfl, by show 0 ≤ sizeLine; decide, fun l2 hl2 => ?_⟩
    have s17 := s16.trans (same_new (o := .lst []) hl2)
    have gl2 : upd H16 l2 (.lst []) l2 = some (.lst []) := upd_same
    have eb7 := same_new (o := .lst []) hl2 _ _ eb
    have pc7 := ParD.same (same_new (o := .lst []) hl2) pc
    generalize upd H16 l2 (.lst []) = H17 at s17 gl2 eb7 pc7 ⊢
    refine ⟨_, _, .lst (SqL.of eb7) .nil, .lst (SqL.of gl2) .nil, by decide +kernel, by decide +kernel, _, rfl, if_f (by decide +kernel) ?_⟩
    clear eb eb7 gl2 hl2 ea eR pc lw
    have s17g := s17
    obtain ⟨tsg, ecc, pcc⟩ := pc7
    have ltg : tsg.length = ks.length + 1 := by rw [Paired.length pcc, List.length_range']
    refine ⟨_, rfl, cc, rfl, ⟨_, SqL.of ecc⟩, fun W hW => ?_⟩
    have byc : ∀ i t, tsg[i]? = some t → ∃ j : Nat, (List.range' 1 (ks.length + 1))[i]? = some j ∧ H17 t = some (.tup [.int (j : Int), .int (((many - 1 : Nat) : Int) * szN e)]) := fun i t ht => by
      rcases Paired.at i pcc with ⟨z, _⟩ | ⟨u, j, z1, z2, z3⟩
      · rw [ht] at z; cases z
      · rw [ht] at z1; cases z1
        have q := gw.2 j (List.mem_of_getElem? z2)
        dsimp only at q z3
        rw [q] at z3
        exact ⟨j, z2, z3⟩
    refine lc_list (K := K) (a := cc) (xs := tsg.map V.ref) (fun i H' => Same H17 H' ∧ H' W = some (.lst ((List.replicate i (((many - 1 : Nat) : Int) * szN e)).map V.int))) ⟨same_new hW, upd_same⟩ (fun i H' _ x => SqL.of (x.1 _ _ ecc)) ?_ ?_
    · rintro i y H18 hi ⟨s18, g18⟩
      rw [List.getElem?_map] at hi
      obtain ⟨t, ht, rfl⟩ := Option.map_eq_some_iff.mp hi
      obtain ⟨j, hj, et⟩ := byc i t ht
      have il := (List.getElem?_eq_some_iff.mp ht).1
      refine ⟨t, _, rfl, SqT.of (s18 _ _ et), rfl, _, _, rfl, _, _, rfl, rfl, rfl, _, rfl, _, g18, szl (by rw [List.length_map, List.length_replicate]; omega), same_mut s18 hW, ?_⟩
      rw [upd_same, List.replicate_succ', List.map_append]; rfl
    rintro H18 ⟨s18, g18⟩
    rw [List.length_map, ltg] at g18
    refine ⟨W, _, ((many - 1 : Nat) : Int) * szN e, rfl, SqL.of g18, by rw [List.length_replicate]; omega, (by intro z; have := congrArg List.length z; rw [List.length_replicate] at this; cases this), fun n hn => (List.mem_replicate.mp hn).2, rfl, _, rfl, if_f rfl ?_⟩
    have s0 := s17.trans s18
    have ecc8 := s18 _ _ ecc
    have num18 : ∀ i t, tsg[i]? = some t → ∃ j : Nat, (List.range' 1 (ks.length + 1))[i]? = some j ∧ H18 t = some (.tup [.int (j : Int), .int (((many - 1 : Nat) : Int) * szN e)]) := fun i t ht => by
      obtain ⟨j, h1, h2⟩ := byc i t ht
      exact ⟨j, h1, s18 _ _ h2⟩
    clear s17 s18 s17g ecc byc pcc
    delta tNext
    -- the numbers that are grown
    refine ⟨_, rfl, cc, rfl, ⟨_, SqL.of ecc8⟩, fun W2 hW2 => ?_⟩
    refine lc_list (K := K) (a := cc) (xs := tsg.map V.ref) (fun i H' => Same H18 H' ∧ H' W2 = some (.lst ((((List.range' 1 (ks.length + 1)).take i).map fun (j : Nat) => (j : Int)).map V.int))) ⟨same_new hW2, upd_same⟩ (fun i H' _ x => SqL.of (x.1 _ _ ecc8)) ?_ ?_
    · rintro i y H19 hi ⟨s19, g19⟩
      rw [List.getElem?_map] at hi
      obtain ⟨t, ht, rfl⟩ := Option.map_eq_some_iff.mp hi
      obtain ⟨j, hj, et⟩ := num18 i t ht
      have il := (List.getElem?_eq_some_iff.mp ht).1
      refine ⟨t, _, rfl, SqT.of (s19 _ _ et), rfl, _, _, rfl, _, _, rfl, rfl, rfl, _, rfl, _, g19, szl (by rw [List.length_map, List.length_map, List.length_take]; omega), same_mut s19 hW2, ?_⟩
      rw [upd_same, WB.take_snoc hj, List.map_append, List.map_append]; rfl
    rintro H19 ⟨s19, g19⟩
    rw [List.length_map, ltg, List.take_of_length_le (by rw [List.length_range']; exact Nat.le_refl _)] at g19
    refine ⟨W2, _, rfl, SqL.of g19, fun ns p pm srt hp => ?_⟩
    have ens : ns = (List.range' 1 (ks.length + 1)).map fun (j : Nat) => (j : Int) := by
      refine List.Perm.eq_of_pairwise (le := (· ≤ ·)) (fun a b _ _ h1 h2 => Int.le_antisymm h1 h2) srt ?_ pm
      exact ((range'_lt (ks.length + 1) 1).imp fun h => by omega : (List.range' 1 (ks.length + 1)).Pairwise fun a b : Nat => (a : Int) ≤ (b : Int)).map _ fun _ _ h => h
    rw [ens]
    have s20 := (s0.trans s19).trans (same_new (o := .lst (((List.range' 1 (ks.length + 1)).map fun (j : Nat) => (j : Int)).map V.int)) hp)
    have gp : upd H19 p (.lst (((List.range' 1 (ks.length + 1)).map fun (j : Nat) => (j : Int)).map V.int)) p = some (.lst (nV (List.range' 1 (ks.length + 1)))) := by rw [upd_same, List.map_map]; rfl
    generalize upd H19 p (.lst (((List.range' 1 (ks.length + 1)).map fun (j : Nat) => (j : Int)).map V.int)) = H20 at s20 gp ⊢
    clear ens srt pm hp g19 s19 s0 num18 ecc8 hW2
    have sA := (s13.trans s15).trans s20
    clear s13 s15 s20 s16 gw phf phe e0 ph0 phl pok gL5 gL
    refine ⟨by show 1 ≤ sizeLine; decide, fun l3 hl3 => ?_⟩
    have s1 := sA.trans (same_new (o := .lst [V.int 1]) hl3)
    have gl3 : upd H20 l3 (.lst [V.int 1]) l3 = some (.lst [V.int 1]) := upd_same
    have gp1 := same_new (o := .lst [V.int 1]) hl3 _ _ gp
    generalize upd H20 l3 (.lst [V.int 1]) = H21 at s1 gl3 gp1 ⊢
    refine ⟨_, rfl, _, _, rfl, rfl, _, _, rfl, fun pr hpr => ?_⟩
    have s2 := s1.trans (same_new (o := .rng 2 (2 + (deep : Int))) hpr)
    have gr2 : upd H21 pr (.rng 2 (2 + (deep : Int))) pr = some (.rng 2 (2 + (deep : Int))) := upd_same
    have gl2 := same_new (o := .rng 2 (2 + (deep : Int))) hpr _ _ gl3
    have gp2 := same_new (o := .rng 2 (2 + (deep : Int))) hpr _ _ gp1
    show ∃ (p : Addr) (lo n : Nat), [V.ref pr] = [.ref p] ∧ upd H21 pr (.rng 2 (2 + (deep : Int))) p = some (.rng (lo : Int) ((lo + n : Nat) : Int)) ∧ lo ≤ 1000 ∧ n ≤ 1000 ∧ ∀ l, upd H21 pr (.rng 2 (2 + (deep : Int))) l = none → _
    generalize upd H21 pr (.rng 2 (2 + (deep : Int))) = H22 at s2 gr2 gl2 gp2 ⊢
    refine ⟨pr, 2, deep, rfl, by rw [gr2, show ((2 + deep : Nat) : Int) = 2 + (deep : Int) by omega]; rfl, by decide, by omega, fun l4 hl4 => ?_⟩
    have s3 := s2.trans (same_new (o := .lst ((List.range' 2 deep).map fun (i : Nat) => V.int (i : Int))) hl4)
    have gl4 : upd H22 l4 (.lst ((List.range' 2 deep).map fun (i : Nat) => V.int (i : Int))) l4 = some (.lst ((List.range' 2 deep).map fun (i : Nat) => V.int (i : Int))) := upd_same
    have gl5 := same_new (o := .lst ((List.range' 2 deep).map fun (i : Nat) => V.int (i : Int))) hl4 _ _ gl2
    have gp5 := same_new (o := .lst ((List.range' 2 deep).map fun (i : Nat) => V.int (i : Int))) hl4 _ _ gp2
    generalize upd H22 l4 (.lst ((List.range' 2 deep).map fun (i : Nat) => V.int (i : Int))) = H23 at s3 gl4 gl5 gp5 ⊢
    refine ⟨l3, l4, _, _, rfl, rfl, gl5, gl4, by rw [List.length_map, List.length_range']; exact Nat.le_of_lt (szl (by simp only [List.length_cons, List.length_nil]; omega)), fun l6 hl6 => ?_⟩
    have s4 := s3.trans (same_new (o := .lst ([V.int 1] ++ (List.range' 2 deep).map fun (i : Nat) => V.int (i : Int))) hl6)
    have gl6 : upd H23 l6 (.lst ([V.int 1] ++ (List.range' 2 deep).map fun (i : Nat) => V.int (i : Int))) l6 = some (.lst (nV (List.range' 1 (ks.length + 1)))) := by rw [upd_same, lks]; rfl
    have gp6 := same_new (o := .lst ([V.int 1] ++ (List.range' 2 deep).map fun (i : Nat) => V.int (i : Int))) hl6 _ _ gp5
    generalize upd H23 l6 (.lst ([V.int 1] ++ (List.range' 2 deep).map fun (i : Nat) => V.int (i : Int))) = H24 at s4 gl6 gp6 ⊢
    refine ⟨_, _, nV_dp25 gp6, nV_dp25 gl6, args_shaped (nV_good25 _), args_shaped (nV_good25 _), _, rfl, ?_⟩
    rw [nV_refl25]
    refine if_f rfl ?_
    clear s1 s2 s3 sA gp gl3 gp1 gr2 gl2 gp2 gl4 gl5 gp5 gl6 gp6 hl3 hpr hl4 hl6
    -- the deeds but one
    have dF24 := dF.same s4
    have dD24 := dD.same s4
    have gA24 := s4 _ _ gA
    have qA24 : Paired (DeedAt H24) pA (againD ks e) := Paired.imp (fun _ _ z => z.same s4) qA
    clear dF dD dA gA qA gF qF s4
    refine ⟨_, rfl, A, rfl, ⟨_, SqL.of gA24⟩, fun O hO => ?_⟩
    refine lc_list (K := K) (a := A) (xs := pA.map V.ref) (fun i H' => Same H24 H' ∧ ∃ ps : List Addr, H' O = some (.lst (ps.map V.ref)) ∧ Paired (DeedAt H') ps (((againD ks e).take i).filter (keepB e))) ⟨same_new hO, [], upd_same, .nil⟩ (fun i H' _ x => SqL.of (x.1 _ _ gA24)) ?_ ?_
    · rintro i y H25 hi ⟨s25, ps, g25, p25⟩
      rw [List.getElem?_map] at hi
      obtain ⟨p, hpi, rfl⟩ := Option.map_eq_some_iff.mp hi
      obtain ⟨d, hdi, hd⟩ : ∃ d, (againD ks e)[i]? = some d ∧ DeedAt H24 p d := by
        rcases Paired.at i qA24 with ⟨z, _⟩ | ⟨u, v, z1, z2, z3⟩
        · rw [hpi] at z; cases z
        · rw [hpi] at z1; cases z1; exact ⟨v, z2, z3⟩
      have il := (List.getElem?_eq_some_iff.mp hdi).1
      rw [again_len] at il
      have lp := Paired.length p25
      have lf : (((againD ks e).take i).filter (keepB e)).length ≤ i := Nat.le_trans (List.length_filter_le _ _) (by rw [List.length_take]; omega)
      have sn : ((againD ks e).take (i + 1)).filter (keepB e) = ((againD ks e).take i).filter (keepB e) ++ [d].filter (keepB e) := by rw [WB.take_snoc hdi, List.filter_append]
      refine ⟨rfl, _, rfl, _, rfl, by show 4 ≤ sizeLine; decide, fun t ht => ?_⟩
      have ok0 : (Deed.put "t" (pt2 e) "u").ok := ⟨it, pt2_ok e, iu⟩
      have s26 := s25.trans (same_new (o := .tup [V.str "put", V.str "t", kV (pt2 e), V.str "u"]) ht)
      have gt : upd H25 t (.tup [V.str "put", V.str "t", kV (pt2 e), V.str "u"]) t = some (tD (.put "t" (pt2 e) "u")) := upd_same
      have g26 := same_new (o := .tup [V.str "put", V.str "t", kV (pt2 e), V.str "u"]) ht _ _ g25
      have p26 : Paired (DeedAt (upd H25 t (.tup [V.str "put", V.str "t", kV (pt2 e), V.str "u"]))) ps _ := Paired.imp (fun _ _ z => z.same (same_new ht)) p25
      generalize upd H25 t (.tup [V.str "put", V.str "t", kV (pt2 e), V.str "u"]) = H26 at s26 gt g26 p26 ⊢
      have d26 := hd.same s26
      refine ⟨_, _, .tup (SqT.of d26.2) (args_dp (deed_good d hd.1)), .tup (SqT.of gt) (args_dp (deed_good _ ok0)), deed_shaped hd.1, deed_shaped ok0, _, rfl, ?_⟩
      by_cases kb : keepB e d = true
      · refine if_t kb ?_
        have tp : Tup H26 (upd H26 O (.lst (ps.map V.ref ++ [V.ref p]))) := tup_upd (by rw [g26]; intro xs z; cases z; rfl)
        refine ⟨_, rfl, _, g26, szl (by rw [List.length_map]; omega), same_mut s26 hO, ps ++ [p], by rw [upd_same, List.map_append]; rfl, ?_⟩
        rw [sn, List.filter_cons_of_pos kb]
        exact Paired.app (Paired.imp (fun _ _ z => z.tup tp) p26) (.cons (d26.tup tp) .nil)
      · refine if_f (Bool.eq_false_iff.mpr kb) ⟨s26, ps, g26, ?_⟩
        rw [sn, List.filter_cons_of_neg kb]
        show Paired _ _ (_ ++ [])
        rw [List.append_nil]
        exact p26
    rintro H25 ⟨s25, po, gO, qO⟩
    rw [List.length_map, List.take_of_length_le (by rw [again_len]; omega), filt_again] at qO
    have lO := Paired.length qO
    rw [other_len] at lO
    obtain ⟨pF, gF, qF⟩ := dF24.same s25
    have lF := Paired.length qF
    rw [first_len] at lF
    have dD25 := dD24.same s25
    clear dF24 dD24 gA24 qA24 hO s25
    refine ⟨_, _, _, _, g_leak T, ok_leak T, by decide, _, _, _, _, g_growing T, ok_growing T, by decide, _, rfl, _, rfl, _, rfl, F, O, pF, po, firstD ks, otherD ks e, many, rfl, gF, gO, qF, qO, by omega, by omega, m2, m9, fun L2 H27 qs2 lt2 s27 nL2 gL2 lq2 phs2 => ?_⟩
    have to := tn_other ks e
    obtain ⟨qs2', q2, eq2, _, _, pr2, pok2, _⟩ := leak_in to (tame_first ks) (fun d hd => tame_again ks e d (other_sub ks e d hd)) m2 (fun i hi => by show ks.length + 3 + (ks.length + 3 + (i + 1)) ≤ 1000; omega) lq2 phs2
    subst eq2
    refine ⟨L2, qs2', _, q2, _, _, rfl, gL2, pr2, leak_ok pok2 (by omega), by rw [snL_len]; omega, by rw [snL_len]; omega, fun R2 H28 s28 nR2 gR2 => ?_⟩
    have el2 := to.none_ m2 (fun k h1 h2 => by
      rw [to.mem] at h1 h2
      unfold inG at h1 h2
      omega) (by show ks.length + 3 + (0 + 1) - (ks.length + 2 + (0 + 1)) = ks.length + 3 + (1 + 1) - (ks.length + 2 + (1 + 1)); omega) (stT (firstD ks) (otherD ks e) (many - 1)) (Ks ks.length (ks.length + 2 + (many - 1 + 1)) (ks.length + 3 + (many - 1 + 1)))
    rw [snL_snoc (by omega)] at el2
    rw [el2] at gR2
    clear el2 pr2 pok2 to
    refine ⟨by show 0 ≤ sizeLine; decide, fun l7 hl7 => ?_⟩
    have s29 := (s27.trans s28).trans (same_new (o := .lst []) hl7)
    have gl7 : upd H28 l7 (.lst []) l7 = some (.lst []) := upd_same
    have gR29 := same_new (o := .lst []) hl7 _ _ gR2
    generalize upd H28 l7 (.lst []) = H29 at s29 gl7 gR29 ⊢
    refine ⟨_, _, .lst (SqL.of gR29) .nil, .lst (SqL.of gl7) .nil, by decide +kernel, by decide +kernel, ?_⟩
    refine ⟨_, rfl, if_t (by decide +kernel) ?_⟩
    clear gR29 gl7 gR2 hl7 nR2 s27 s28
    -- nothing put
    obtain ⟨pF2, gF2, qF2⟩ := (show DLa H25 F (firstD ks) from ⟨pF, gF, qF⟩).same s29
    have lF2 := Paired.length qF2
    rw [first_len] at lF2
    have dD29 := dD25.same s29
    have x0 : TDs H29 H29 [] [] := TDs.nil
    refine ⟨_, _, _, _, g_leak T, ok_leak T, by decide, _, _, _, _, g_growing T, ok_growing T, by decide, _, rfl, ?_⟩
    refine ⟨_, rfl, by show 2 ≤ sizeLine; decide, fun t1 ht1 => ⟨by show 1 ≤ sizeLine; decide, fun l hl => ?_⟩⟩
    have x1 := x0.snoc (.drop "s") is ht1
    obtain ⟨sl, ts, gl, pl⟩ := x1.lst hl
    show rCat (.ref D) (.ref l) (upd (upd H29 t1 (tD (.drop "s"))) l (.lst (([] ++ [t1]).map V.ref))) _
    generalize upd (upd H29 t1 (tD (.drop "s"))) l (.lst (([] ++ [t1]).map V.ref)) = H30 at sl gl pl ⊢
    obtain ⟨ps, gD, pD⟩ := dD29.same sl
    have lps := Paired.length pD
    have lts := Paired.length pl
    rw [down_len] at lps
    simp only [List.length_append, List.length_cons, List.length_nil] at lts
    refine ⟨D, l, _, _, rfl, rfl, gD, gl, by rw [List.length_map, List.length_map]; exact Nat.le_of_lt (szl (by omega)), fun G hG => ?_⟩
    obtain ⟨pG, gG, qG⟩ : DLa (upd H30 G (.lst (ps.map V.ref ++ ts.map V.ref))) G (goD ks) := cat_dl hG pD pl
    have sG := sl.trans (same_new (o := .lst (ps.map V.ref ++ ts.map V.ref)) hG)
    generalize upd H30 G (.lst (ps.map V.ref ++ ts.map V.ref)) = H31 at sG gG qG ⊢
    have lG := Paired.length qG
    have lgo : (goD ks).length = ks.length + 2 := by unfold goD; rw [List.length_append, down_len]; rfl
    rw [lgo] at lG
    have qF31 : Paired (DeedAt H31) pF2 (firstD ks) := Paired.imp (fun _ _ z => z.same sG) qF2
    refine ⟨_, rfl, F, G, pF2, pG, firstD ks, goD ks, many, rfl, sG _ _ gF2, gG, qF31, qG, by omega, by omega, m2, m9, fun L3 H32 qs3 lt3 s32 nL3 gL3 lq3 phs3 => ?_⟩
    have tg := tn_go ks
    obtain ⟨qs3', q3, eq3, _, _, pr3, pok3, _⟩ := leak_in tg (tame_first ks) (tame_go ks) m2 (fun i hi => by show ks.length + 3 + (ks.length + 3) ≤ 1000; omega) lq3 phs3
    subst eq3
    refine ⟨L3, qs3', _, q3, _, _, rfl, gL3, pr3, leak_ok pok3 (by omega), by rw [snL_len]; omega, by rw [snL_len]; omega, fun R3 H33 s33 nR3 gR3 => ?_⟩
    have el3 := tg.none_ m2 (fun k h1 h2 => by
      rw [tg.mem] at h1 h2
      unfold inG at h1 h2
      omega) rfl (stT (firstD ks) (goD ks) (many - 1)) (Ks ks.length (ks.length + 3) (ks.length + 3))
    rw [snL_snoc (by omega)] at el3
    rw [el3] at gR3
    refine ⟨by show 0 ≤ sizeLine; decide, fun l8 hl8 => ?_⟩
    have gl8 : upd H33 l8 (.lst []) l8 = some (.lst []) := upd_same
    have gR34 := same_new (o := .lst []) hl8 _ _ gR3
    generalize upd H33 l8 (.lst []) = H34 at gl8 gR34 ⊢
    refine ⟨_, _, .lst (SqL.of gR34) .nil, .lst (SqL.of gl8) .nil, by decide +kernel, by decide +kernel, ?_⟩
    exact k H34
end
end WK
namespace WK
open PySem PySem.Spec PyProof.Rows L2 He WB
/-- the end: what the head tells, the law's promise from it -/
theorem ends {l : PySem.W.OpenLaw} {n : Nat} {q : Program} {loose : List Str} {XP : (Str → Option Value) → Heap → Prop} {YP : World → Heap → Prop} {d : DefRec} {x : Str} {k : Nat} (hn : l.most = some n) (sz : n ≤ sizeLine) (nod : d.params.defaults = []) (room : Room k callerA)
    (say : ∀ (w : World) (mg : Str → Option Value) (f : Addr) (h : Heap), YP w h → h.Ns mainGlobals mg → mg d.name = some (.ref f) → ∃ K : PySem.W.Frag, K.In h ∧ LamX.LawAtS l w K CX0 k n x mg f h) : PySem.W.WalkO q loose XP YP l.row.toRowW d [] (fun f vs => PySem.call f vs) := by
  refine Att.attach_callB hn nod ?_
  intro w s0 s1 mg mb f o pm cd doc a vs ns G Y e1 e2 e3 e4 e5 e6 e7 e8 e9
  obtain ⟨K, inK, r⟩ := say w mg f _ Y G.T.g e4
  obtain ⟨fd, cs, sp, r1, r2, r3, r4, r5, r6⟩ := r
  refine LamX.law_callTs inK G.T.g G.T.b G.T.builtins G.T.nolimit e9 r1 r2 r3 G.T.bmain e5 e6 (Nat.le_trans e7 sz) room r6 r4 ?_ ?_
  · exact fun H t z => r5 H a ns e7 e8 t z
  · exact fun _ _ _ z => z
theorem at_end {w : World} {K : PySem.W.Frag} {mg : Str → Option Value} {f : Addr} {h : Heap} (X : K.In h) (G : h.Ns mainGlobals mg) (c : SaysW fa fn ts fx w K) (e : TabsE tl K h) (hf : mg ("law" : Str) = some (.ref f)) : LamX.LawAtS PySem.Challenge.rw_whokeeps_k25_whole_a_leak_is_shown w K CX0 11 63 "_law_script" mg f h := by
  have T : Tx w K mg := ⟨c, h, X, G⟩
  have ef := hf.symm.trans (g_law T)
  cases ef
  obtain ⟨fd, F⟩ := f_law T
  have b := FunD.bindsA (ps := ["_law_script"]) F fun _ _ _ _ _ _ us hl => match us, hl with | [_], _ => rfl
  refine ⟨fd, [], spLaw0 K, (fun p hp => by cases hp), (fun p hp => by cases hp), (fun p hp => by cases hp), fun s v => b s [v] rfl, ?_, ?_⟩
  · intro H a ns hl _ t z
    exact ⟨a, ns, rfl, z, Nat.le_trans hl (by decide), fun _ => rfl⟩
  · exact fun base _ _ _ => fn_law T F
end WK
open PySem PySem.W PySem.Calls PyProof.Rows
theorem PySem.Challenge.cw_whokeeps_k25_whole_a_leak_is_shown_holds : PySem.Challenge.rw_whokeeps_k25_whole_a_leak_is_shown.Holds := by
  w_on; o_law
  refine HandSHeadRun.head_any (r := WK.R) (q := view WK.R.prog [73]) (H := WK.hk) (ob := WK.ob) (M := 12000) (loose := WK.loose) (d := HandSHeadRun.topDef WK.R.prog 73) (kwd := []) WK.ob_eq
    (by kernel_rfl) (fun s => by kernel_rfl) WK.run (by kernel_rfl) (by kernel_rfl) (by kernel_rfl) (by rfl) (by first | assumption | decide +kernel) (by decide +kernel) ⟨rfl, rfl, rfl, rfl, rfl, by decide +kernel⟩ ?hw ?hc
  case hw => w_witness2
  case hc =>
    refine WK.ends (l := PySem.Challenge.rw_whokeeps_k25_whole_a_leak_is_shown) (n := 63) (k := 11) (x := "_law_script") rfl (by decide) (by kernel_rfl) ⟨rfl, by decide, by decide⟩ ?F
    intro w mg f h Y G e
    obtain ⟨K, X, c, t⟩ := Y
    have nm : (HandSHeadRun.topDef WK.R.prog 73).name = ("law" : PySem.Str) := by kernel_rfl
    rw [nm] at e
    exact ⟨K, X, WK.at_end X G c t e⟩
