import PyProof.Rows.All
import HandS.Head3
import HandS.HeadHook4
import PySem.Challenge.RW_allknow_k36_targets
import Wide.All
import OpenK.AllK
import Wide.FinOn
import HandS.ForMost
import HandS.ForExc
import HandS.IsInst
import HandS.ExcIs
import HandS.ExcField
import HandS.ExcInit
import HandS.FStr
import HandS.StrMore
import HandS.Evl
import HandS.EndTab
import HandS.AnyAll
import HandS.JoinGen
import HandS.GenList
import HandS.RaiseMore
import PyProof.TupleOfGen
import KE.GoesMore
import PyProof.EnumMake
import HandS.CallSlots
import HandS.WordsExc
import KE.KExcIs
import HandS.Head0
import HandS.Head1
import HandS.Head2
import HandS.HeadEnd
import HandS.HeadHook1
import HandS.HeadHook2
import HandS.HeadHook3
import HandS.HeadWalk
import PyProof.Rows.SortShellAny
import HandS.Defaults
import HandS.TupLe
import HandS.Text
import HandS.Strs
import KE.DataMinMax
import PyProof.Rows.CallKwBuiltin
import KE.SortData
import KE.SortLaws
import HandS.DictComp
import PyProof.StrLoop
import HandS.NoneIn
import HandS.Conv
import HandS.RepeatKit
import HandS.TryMany
import KE.KDictZip
import KE.KDictList
import HandS.RevTup
import HandS.Sort
import KE.KDictSum
import HandS.SetKeys
import HandS.TryOnly
set_option Elab.async false
set_option linter.all false
set_option maxRecDepth 100000
namespace AK
open PySem PySem.Spec PyProof.Rows L2
structure ExcA (K : PySem.W.Frag) (C : Addr) : Prop where
  ga : PySem.W.findIn K (.ref C) "__getattribute__" = some (some (.builtin "BaseException.__getattribute__"))
  gg : PySem.W.findIn K (.ref C) "__getattr__" = some none
  ex : PySem.W.subIn K (.ref C) (.type "BaseException") = some true
  hd : PySem.W.hasDictIn K C = true
  hc : PySem.W.findIn K (.ref C) "__class__" = some (some (.builtin "object.__class__"))
  hn : PySem.W.specialIn K (.builtin "object.__class__") "__get__" = some (some (.builtin "getset_descriptor.__get__"))
  ht : PySem.W.takesIn K (.builtin "object.__class__") = some true
  hm : PySem.W.mroIn K C (.type "object") = some true
  ty : PySem.W.typeIn K (.ref C) = some (.type "type")
  kp : PySem.W.keepIn K (.ref C) = true
  su : PySem.W.subIn K (.ref C) (.ref C) = some true
end AK
namespace AK
open PySem PySem.Spec PyProof.Rows L2
structure FunC (K : PySem.W.Frag) (x qual : Str) (st : Stmt) (f : Addr) (fd : FuncData) (c : Addr) : Prop where
  ex : ∃ (oc : Value) (od : Option Addr) (kV doc pm : Value) (an : Option Addr) (ct : Value) (osl : Array (Option Value)),
    fd = PySem.W.fnOf x qual (defArgs st) (defBody st) (defScope st) .none kV doc pm an (.ref c) ct ∧ K.lookup f = some ⟨oc, od, .func fd, osl⟩ ∧ PySem.W.codeIn K (.ref c) qual = true
end AK
namespace AK
open PySem PySem.Spec PyProof.Rows L2
def excB (K : PySem.W.Frag) (C : Addr) : Bool :=
  He.eqO (PySem.W.findIn K (.ref C) "__getattribute__") (some (some (.builtin "BaseException.__getattribute__"))) && (He.eqO (PySem.W.findIn K (.ref C) "__getattr__") (some none) && (decide (PySem.W.subIn K (.ref C) (.type "BaseException") = some true) && (PySem.W.hasDictIn K C &&
  (He.eqO (PySem.W.findIn K (.ref C) "__class__") (some (some (.builtin "object.__class__"))) && (He.eqO (PySem.W.specialIn K (.builtin "object.__class__") "__get__") (some (some (.builtin "getset_descriptor.__get__"))) && (decide (PySem.W.takesIn K (.builtin "object.__class__") = some true) &&
  (decide (PySem.W.mroIn K C (.type "object") = some true) && (decide (PySem.W.typeIn K (.ref C) = some (.type "type")) && (PySem.W.keepIn K (.ref C) && decide (PySem.W.subIn K (.ref C) (.ref C) = some true))))))))))
end AK
namespace AK
open PySem PySem.Spec PyProof.Rows L2
def ownB (C : Addr) : Obj → Bool
  | ⟨.type t, _, .cls cd, sl⟩ => decide (t = "type") && (match cd.mro, sl.toList with
    | .ref D :: bm, [_, _, _, _, some (.builtin n), _] => decide (D = C) && (decide (n = "ValueError.__new__") && (!cd.hasDel && (cd.hasDict && PySem.HandSPX.refsVE bm)))
    | _, _ => false)
  | _ => false
end AK
namespace AK
open PySem PySem.Spec PyProof.Rows L2
def oexB (K : PySem.W.Frag) (C : Addr) : Bool := (match K.lookup C with
  | some o => ownB C o
  | none => false) && He.eqO (PySem.W.findIn K (.ref C) "__setattr__") (some (some (.builtin "object.__setattr__")))
end AK
namespace AK
open PySem PySem.Spec PyProof.Rows L2
def tup0B (K : PySem.W.Frag) (t : Addr) : Bool := match K.lookup t with
  | some ⟨.type c, _, .seq its _, _⟩ => decide (c = "tuple") && decide (its = #[])
  | _ => false
end AK
set_option Elab.async false
set_option linter.all false
set_option maxRecDepth 100000
namespace AK
open PySem PySem.Spec PyProof.Rows L2
/-! ### a head whose observation is cut in pieces: the objects are taken by their numbers, nothing is gone after -/
/-- the objects below m -/
def lowK (m : Nat) (g : Addr → Option Obj) : PySem.W.Frag := He.frT g (List.range m)
/-- one piece of what is asked -/
def pieceO (m : Nat) (fa : List He.Fa) (fn : List He.DefD) (tf : List He.Defn) (ex : PySem.W.Frag → Bool) (g : Addr → Option Obj) : He.AlX := (He.obsT fa fn [] (lowK m g), ex (lowK m g) && He.tabsB g tf (lowK m g))
theorem piece_says {m : Nat} {fa : List He.Fa} {fn : List He.DefD} {tf : List He.Defn} {ex : PySem.W.Frag → Bool} {w : World} {h : Heap} (e : pieceO m fa fn tf ex h.get? = He.valX fn [] w) : He.SaysX fa fn [] tf ex w h (lowK m h.get?) := by
  have first := congrArg Prod.fst e
  have second : (ex (lowK m h.get?) && He.tabsB h.get? tf (lowK m h.get?)) = true := congrArg Prod.snd e
  rw [Bool.and_eq_true] at second
  have each : ∀ p ∈ tf, PySem.W.codeHdIn (lowK m h.get?) (He.cT (lowK m h.get?) p).1 (He.cT (lowK m h.get?) p).2 = true ∧ ∃ u, h.get? (He.cT (lowK m h.get?) p).2 = some u ∧ He.emptyTab u = true := by
    intro p hp
    have z := List.all_eq_true.mp second.2 p hp
    rw [Bool.and_eq_true] at z
    refine ⟨z.1, ?_⟩
    have y := z.2
    generalize h.get? (He.cT (lowK m h.get?) p).2 = r at y
    match r, y with
    | some u, y => exact ⟨u, rfl, y⟩
  refine ⟨first, second.1, fun p hp => (each p hp).1, fun p hp => ?_, fun p hp => ?_⟩
  · obtain ⟨u, a1, a2⟩ := (each p hp).2
    exact He.frT_none a1 a2
  · obtain ⟨u, a1, a2⟩ := (each p hp).2
    rw [a1, He.emptyTab_eq a2]
def hookP (m : Nat) (fa : List He.Fa) (fn : List He.DefD) (tf : List He.Defn) (ex : PySem.W.Frag → Bool) : PySem.W.Hook where
  α := He.AlX
  obs s := pieceO m fa fn tf ex s.heap.get?
  val w := He.valX fn [] w
  says w h := ∃ K : PySem.W.Frag, K.In h ∧ He.SaysX fa fn [] tf ex w h K
  of _ _ e := ⟨_, He.frT_in, piece_says e⟩
  keeps _ _ _ := fun ⟨K, a1, c⟩ k => ⟨K, a1.keeps k, c.t, c.more, c.hd, c.out, fun p hp => k _ _ (c.empty p hp)⟩
theorem pieceO_eq {m : Nat} {fa : List He.Fa} {fn : List He.DefD} {tf : List He.Defn} {ex : PySem.W.Frag → Bool} (s : PySem.W.SharedT) : pieceO m fa fn tf ex (HandSHeadRun.getT s) = (hookP m fa fn tf ex).obs s.abs := by
  show pieceO m fa fn tf ex (HandSHeadRun.getT s) = pieceO m fa fn tf ex s.abs.heap.get?
  rw [show HandSHeadRun.getT s = s.abs.heap.get? from funext (HandSHeadRun.getT_eq s)]
/-- two pieces are one -/
theorem piece_join {m : Nat} {fa1 fa2 : List He.Fa} {fn1 fn2 : List He.DefD} {tf1 tf2 : List He.Defn} {l1 l2 : PySem.W.Frag → List Bool} {g : Addr → Option Obj} {w : World} (h1 : pieceO m fa1 fn1 tf1 (fun K => (l1 K).all id) g = He.valX fn1 [] w) (h2 : pieceO m fa2 fn2 tf2 (fun K => (l2 K).all id) g = He.valX fn2 [] w) :
    pieceO m (fa1 ++ fa2) (fn1 ++ fn2) (tf1 ++ tf2) (fun K => (l1 K ++ l2 K).all id) g = He.valX (fn1 ++ fn2) [] w := by
  have a1 : (fa1.all (fun f => f.ok (lowK m g)) && fn1.all fun d => d.ok (lowK m g)) = true := congrArg (fun z : He.AlX => z.1.1.1) h1
  have a2 : (fa2.all (fun f => f.ok (lowK m g)) && fn2.all fun d => d.ok (lowK m g)) = true := congrArg (fun z : He.AlX => z.1.1.1) h2
  have b1 : (fn1.map fun d => He.fnW (lowK m g) d.at_) = fn1.map He.DefD.val := congrArg (fun z : He.AlX => z.1.1.2) h1
  have b2 : (fn2.map fun d => He.fnW (lowK m g) d.at_) = fn2.map He.DefD.val := congrArg (fun z : He.AlX => z.1.1.2) h2
  have c1 : ((l1 (lowK m g)).all id && He.tabsB g tf1 (lowK m g)) = true := congrArg (fun z : He.AlX => z.2) h1
  have c2 : ((l2 (lowK m g)).all id && He.tabsB g tf2 (lowK m g)) = true := congrArg (fun z : He.AlX => z.2) h2
  rw [Bool.and_eq_true] at a1 a2 c1 c2
  have t : He.tabsB g (tf1 ++ tf2) (lowK m g) = true := by
    have t1 := c1.2
    have t2 := c2.2
    unfold He.tabsB at t1 t2 ⊢
    rw [List.all_append, t1, t2]
    rfl
  refine Prod.ext (Prod.ext (Prod.ext ?_ ?_) rfl) ?_
  · show ((fa1 ++ fa2).all (fun f => f.ok (lowK m g)) && (fn1 ++ fn2).all fun d => d.ok (lowK m g)) = true
    rw [List.all_append, List.all_append, a1.1, a1.2, a2.1, a2.2]
    rfl
  · show ((fn1 ++ fn2).map fun d => He.fnW (lowK m g) d.at_) = (fn1 ++ fn2).map He.DefD.val
    rw [List.map_append, List.map_append, b1, b2]
  · show ((l1 (lowK m g) ++ l2 (lowK m g)).all id && He.tabsB g (tf1 ++ tf2) (lowK m g)) = true
    rw [List.all_append, c1.1, c2.1, t]
    rfl
theorem map_three {α β γ δ : Type} {o : Option α} {f : α → β} {g : α → γ} {k : α → δ} {a : β} {b : γ} {c : δ} (h1 : o.map f = some a) (h2 : o.map g = some b) (h3 : o.map k = some c) : o.map (fun x => (f x, g x, k x)) = some (a, b, c) := by
  match o, h1, h2, h3 with
  | some x, h1, h2, h3 =>
    cases h1
    cases h2
    cases h3
    rfl
theorem map_join {α : Type} {o : Option α} {m : Nat} {fa1 fa2 : List He.Fa} {fn1 fn2 : List He.DefD} {tf1 tf2 : List He.Defn} {l1 l2 : PySem.W.Frag → List Bool} {G : α → Addr → Option Obj} {w : World} (h1 : o.map (fun x => pieceO m fa1 fn1 tf1 (fun K => (l1 K).all id) (G x)) = some (He.valX fn1 [] w)) (h2 : o.map (fun x => pieceO m fa2 fn2 tf2 (fun K => (l2 K).all id) (G x)) = some (He.valX fn2 [] w)) :
    o.map (fun x => pieceO m (fa1 ++ fa2) (fn1 ++ fn2) (tf1 ++ tf2) (fun K => (l1 K ++ l2 K).all id) (G x)) = some (He.valX (fn1 ++ fn2) [] w) := by
  match o, h1, h2 with
  | some x, h1, h2 => exact congrArg some (piece_join (Option.some.inj h1) (Option.some.inj h2))
end AK
set_option Elab.async false
set_option linter.all false
set_option maxRecDepth 100000
set_option maxHeartbeats 8000000
namespace AK
open PySem PySem.Spec PyProof.Rows L2
def topS (i : Nat) : Stmt := PySem.Challenge.pw_allknow_k36_targets.main.body.getD i (.Pass ⟨0, 0, 0, 0⟩)
abbrev s_BadNetwork_init : Stmt := inClass (topS 11) 0
abbrev sc_BadNetwork_init_N : List Str := ["self", "part", "number", "reason"]
theorem sc_BadNetwork_init : FnScope sc_BadNetwork_init_N ["self", "part", "number", "reason"] (defScope s_BadNetwork_init) := ⟨rfl, rfl, rfl, by decide +kernel, rfl, by decide +kernel, by decide +kernel⟩
abbrev s_Network_init : Stmt := inClass (topS 16) 0
abbrev sc_Network_init_N : List Str := ["self", "variables", "nodes", "links"]
theorem sc_Network_init : FnScope sc_Network_init_N ["self", "variables", "nodes", "links"] (defScope s_Network_init) := ⟨rfl, rfl, rfl, by decide +kernel, rfl, by decide +kernel, by decide +kernel⟩
abbrev s_Network_node_letters : Stmt := inClass (topS 16) 1
abbrev sc_Network_node_letters_N : List Str := ["self"]
theorem sc_Network_node_letters : FnScope sc_Network_node_letters_N ["self"] (defScope s_Network_node_letters) := ⟨rfl, rfl, rfl, by decide +kernel, rfl, by decide +kernel, by decide +kernel⟩
abbrev s_Network_variable_letters : Stmt := inClass (topS 16) 2
abbrev sc_Network_variable_letters_N : List Str := ["self"]
theorem sc_Network_variable_letters : FnScope sc_Network_variable_letters_N ["self"] (defScope s_Network_variable_letters) := ⟨rfl, rfl, rfl, by decide +kernel, rfl, by decide +kernel, by decide +kernel⟩
abbrev s_Network_messages : Stmt := inClass (topS 16) 3
abbrev sc_Network_messages_N : List Str := ["self", "node"]
theorem sc_Network_messages : FnScope sc_Network_messages_N ["self", "node"] (defScope s_Network_messages) := ⟨rfl, rfl, rfl, by decide +kernel, rfl, by decide +kernel, by decide +kernel⟩
abbrev s_Network_all_messages : Stmt := inClass (topS 16) 4
abbrev sc_Network_all_messages_N : List Str := ["self"]
theorem sc_Network_all_messages : FnScope sc_Network_all_messages_N ["self"] (defScope s_Network_all_messages) := ⟨rfl, rfl, rfl, by decide +kernel, rfl, by decide +kernel, by decide +kernel⟩
abbrev s_is_message : Stmt := topS 17
abbrev sc_is_message_N : List Str := ["variables", "text"]
theorem sc_is_message : FnScope sc_is_message_N ["variables", "text"] (defScope s_is_message) := ⟨rfl, rfl, rfl, by decide +kernel, rfl, by decide +kernel, by decide +kernel⟩
abbrev s_is_link : Stmt := topS 18
abbrev sc_is_link_N : List Str := ["nodes", "text", "letters"]
theorem sc_is_link : FnScope sc_is_link_N ["nodes", "text"] (defScope s_is_link) := ⟨rfl, rfl, rfl, by decide +kernel, rfl, by decide +kernel, by decide +kernel⟩
abbrev s_node_number : Stmt := topS 19
abbrev sc_node_number_N : List Str := ["network", "node", "letters"]
theorem sc_node_number : FnScope sc_node_number_N ["network", "node"] (defScope s_node_number) := ⟨rfl, rfl, rfl, by decide +kernel, rfl, by decide +kernel, by decide +kernel⟩
abbrev s_require_set : Stmt := topS 20
abbrev sc_require_set_N : List Str := ["network", "nodes"]
theorem sc_require_set : FnScope sc_require_set_N ["network", "nodes"] (defScope s_require_set) := ⟨rfl, rfl, rfl, by decide +kernel, rfl, by decide +kernel, by decide +kernel⟩
abbrev s_has_link : Stmt := topS 21
abbrev sc_has_link_N : List Str := ["network", "link"]
theorem sc_has_link : FnScope sc_has_link_N ["network", "link"] (defScope s_has_link) := ⟨rfl, rfl, rfl, by decide +kernel, rfl, by decide +kernel, by decide +kernel⟩
abbrev s_require_link : Stmt := topS 22
abbrev sc_require_link_N : List Str := ["network", "link"]
theorem sc_require_link : FnScope sc_require_link_N ["network", "link"] (defScope s_require_link) := ⟨rfl, rfl, rfl, by decide +kernel, rfl, by decide +kernel, by decide +kernel⟩
abbrev s_require_message : Stmt := topS 23
abbrev sc_require_message_N : List Str := ["network", "node", "index", "messages"]
theorem sc_require_message : FnScope sc_require_message_N ["network", "node", "index"] (defScope s_require_message) := ⟨rfl, rfl, rfl, by decide +kernel, rfl, by decide +kernel, by decide +kernel⟩
abbrev s_first_letters : Stmt := topS 24
abbrev sc_first_letters_N : List Str := ["letters", "count"]
theorem sc_first_letters : FnScope sc_first_letters_N ["letters", "count"] (defScope s_first_letters) := ⟨rfl, rfl, rfl, by decide +kernel, rfl, by decide +kernel, by decide +kernel⟩
abbrev s_is_ascending : Stmt := topS 25
abbrev sc_is_ascending_N : List Str := ["letters", "text", "behind", "letter"]
theorem sc_is_ascending : FnScope sc_is_ascending_N ["letters", "text"] (defScope s_is_ascending) := ⟨rfl, rfl, rfl, by decide +kernel, rfl, by decide +kernel, by decide +kernel⟩
abbrev s_check_variables : Stmt := topS 26
abbrev sc_check_variables_N : List Str := ["variables"]
theorem sc_check_variables : FnScope sc_check_variables_N ["variables"] (defScope s_check_variables) := ⟨rfl, rfl, rfl, by decide +kernel, rfl, by decide +kernel, by decide +kernel⟩
abbrev s_check_nodes : Stmt := topS 27
abbrev sc_check_nodes_N : List Str := ["variables", "nodes", "number", "messages", "text"]
theorem sc_check_nodes : FnScope sc_check_nodes_N ["variables", "nodes"] (defScope s_check_nodes) := ⟨rfl, rfl, rfl, by decide +kernel, rfl, by decide +kernel, by decide +kernel⟩
abbrev s_check_links : Stmt := topS 28
abbrev sc_check_links_N : List Str := ["nodes", "links", "number", "text"]
theorem sc_check_links : FnScope sc_check_links_N ["nodes", "links"] (defScope s_check_links) := ⟨rfl, rfl, rfl, by decide +kernel, rfl, by decide +kernel, by decide +kernel⟩
abbrev s_mask_of : Stmt := topS 31
abbrev sc_mask_of_N : List Str := ["parity", "letter"]
theorem sc_mask_of : FnScope sc_mask_of_N ["parity"] (defScope s_mask_of) := ⟨rfl, rfl, rfl, by decide +kernel, rfl, by decide +kernel, by decide +kernel⟩
abbrev s_remainder : Stmt := topS 32
abbrev sc_remainder_N : List Str := ["span", "mask", "row"]
theorem sc_remainder : FnScope sc_remainder_N ["span", "mask"] (defScope s_remainder) := ⟨rfl, rfl, rfl, by decide +kernel, rfl, by decide +kernel, by decide +kernel⟩
abbrev s_spanned : Stmt := topS 33
abbrev sc_spanned_N : List Str := ["masks", "span", "rows", "mask", "rest"]
theorem sc_spanned : FnScope sc_spanned_N ["masks", "span"] (defScope s_spanned) := ⟨rfl, rfl, rfl, by decide +kernel, rfl, by decide +kernel, by decide +kernel⟩
abbrev s_first_masks : Stmt := topS 34
abbrev sc_first_masks_N : List Str := ["network", "letters", "text", "node"]
theorem sc_first_masks : FnScope sc_first_masks_N ["network"] (defScope s_first_masks) := ⟨rfl, rfl, rfl, by decide +kernel, rfl, by decide +kernel, by decide +kernel⟩
abbrev s_Margins_init : Stmt := inClass (topS 36) 0
abbrev sc_Margins_init_N : List Str := ["self", "node_spans", "links", "letters", "nodes", "smaller", "span"]
theorem sc_Margins_init : FnScope sc_Margins_init_N ["self", "node_spans", "links"] (defScope s_Margins_init) := ⟨rfl, rfl, rfl, by decide +kernel, rfl, by decide +kernel, by decide +kernel⟩
abbrev s_Margins_deficient : Stmt := inClass (topS 36) 1
abbrev sc_Margins_deficient_N : List Str := ["self", "nodes", "beyond"]
theorem sc_Margins_deficient : FnScope sc_Margins_deficient_N ["self"] (defScope s_Margins_deficient) := ⟨rfl, rfl, rfl, by decide +kernel, rfl, by decide +kernel, by decide +kernel⟩
abbrev s_Margins_tight : Stmt := inClass (topS 36) 2
abbrev sc_Margins_tight_N : List Str := ["self", "nodes", "beyond"]
theorem sc_Margins_tight : FnScope sc_Margins_tight_N ["self"] (defScope s_Margins_tight) := ⟨rfl, rfl, rfl, by decide +kernel, rfl, by decide +kernel, by decide +kernel⟩
abbrev s_Margins_first_deficient : Stmt := inClass (topS 36) 3
abbrev sc_Margins_first_deficient_N : List Str := ["self"]
theorem sc_Margins_first_deficient : FnScope sc_Margins_first_deficient_N ["self"] (defScope s_Margins_first_deficient) := ⟨rfl, rfl, rfl, by decide +kernel, rfl, by decide +kernel, by decide +kernel⟩
abbrev s_Margins_is_feasible : Stmt := inClass (topS 36) 4
abbrev sc_Margins_is_feasible_N : List Str := ["self"]
theorem sc_Margins_is_feasible : FnScope sc_Margins_is_feasible_N ["self"] (defScope s_Margins_is_feasible) := ⟨rfl, rfl, rfl, by decide +kernel, rfl, by decide +kernel, by decide +kernel⟩
abbrev s_Margins_needed : Stmt := inClass (topS 36) 5
abbrev sc_Margins_needed_N : List Str := ["self"]
theorem sc_Margins_needed : FnScope sc_Margins_needed_N ["self"] (defScope s_Margins_needed) := ⟨rfl, rfl, rfl, by decide +kernel, rfl, by decide +kernel, by decide +kernel⟩
abbrev s_Margins_tolerance : Stmt := inClass (topS 36) 6
abbrev sc_Margins_tolerance_N : List Str := ["self"]
theorem sc_Margins_tolerance : FnScope sc_Margins_tolerance_N ["self"] (defScope s_Margins_tolerance) := ⟨rfl, rfl, rfl, by decide +kernel, rfl, by decide +kernel, by decide +kernel⟩
abbrev s_Margins_tolerance_after : Stmt := inClass (topS 36) 7
abbrev sc_Margins_tolerance_after_N : List Str := ["self", "link", "mask"]
theorem sc_Margins_tolerance_after : FnScope sc_Margins_tolerance_after_N ["self", "link", "mask"] (defScope s_Margins_tolerance_after) := ⟨rfl, rfl, rfl, by decide +kernel, rfl, by decide +kernel, by decide +kernel⟩
abbrev s_first_spans : Stmt := topS 37
abbrev sc_first_spans_N : List Str := ["network", "node", "masks"]
theorem sc_first_spans : FnScope sc_first_spans_N ["network"] (defScope s_first_spans) := ⟨rfl, rfl, rfl, by decide +kernel, rfl, by decide +kernel, by decide +kernel⟩
abbrev s_margins_of : Stmt := topS 38
abbrev sc_margins_of_N : List Str := ["network"]
theorem sc_margins_of : FnScope sc_margins_of_N ["network"] (defScope s_margins_of) := ⟨rfl, rfl, rfl, by decide +kernel, rfl, by decide +kernel, by decide +kernel⟩
abbrev s_ordered_sets : Stmt := topS 39
abbrev sc_ordered_sets_N : List Str := ["letters", "sets", "size", "chosen"]
theorem sc_ordered_sets : FnScope sc_ordered_sets_N ["letters"] (defScope s_ordered_sets) := ⟨rfl, rfl, rfl, by decide +kernel, rfl, by decide +kernel, by decide +kernel⟩
abbrev s_enters : Stmt := topS 40
abbrev sc_enters_N : List Str := ["link", "nodes"]
theorem sc_enters : FnScope sc_enters_N ["link", "nodes"] (defScope s_enters) := ⟨rfl, rfl, rfl, by decide +kernel, rfl, by decide +kernel, by decide +kernel⟩
abbrev s_enters_any : Stmt := topS 41
abbrev sc_enters_any_N : List Str := ["link", "sets", "nodes"]
theorem sc_enters_any : FnScope sc_enters_any_N ["link", "sets"] (defScope s_enters_any) := ⟨rfl, rfl, rfl, by decide +kernel, rfl, by decide +kernel, by decide +kernel⟩
abbrev s_entering : Stmt := topS 42
abbrev sc_entering_N : List Str := ["links", "nodes", "number", "link"]
theorem sc_entering : FnScope sc_entering_N ["links", "nodes"] (defScope s_entering) := ⟨rfl, rfl, rfl, by decide +kernel, rfl, by decide +kernel, by decide +kernel⟩
abbrev s_Sending_init : Stmt := inClass (topS 44) 0
abbrev sc_Sending_init_N : List Str := ["self", "network", "node", "text"]
theorem sc_Sending_init : FnScope sc_Sending_init_N ["self", "network"] (defScope s_Sending_init) := ⟨rfl, rfl, rfl, by decide +kernel, rfl, by decide +kernel, by decide +kernel⟩
abbrev s_Sending_learn : Stmt := inClass (topS 44) 1
abbrev sc_Sending_learn_N : List Str := ["self", "node", "text", "mask"]
theorem sc_Sending_learn : FnScope sc_Sending_learn_N ["self", "node", "text"] (defScope s_Sending_learn) := ⟨rfl, rfl, rfl, by decide +kernel, rfl, by decide +kernel, by decide +kernel⟩
abbrev s_Sending_hindrance : Stmt := inClass (topS 44) 2
abbrev sc_Sending_hindrance_N : List Str := ["self", "transmission", "link", "origin", "index", "sender", "receiver"]
theorem sc_Sending_hindrance : FnScope sc_Sending_hindrance_N ["self", "transmission"] (defScope s_Sending_hindrance) := ⟨rfl, rfl, rfl, by decide +kernel, rfl, by decide +kernel, by decide +kernel⟩
abbrev s_Sending_send : Stmt := inClass (topS 44) 3
abbrev sc_Sending_send_N : List Str := ["self", "transmission", "link", "origin", "index", "_", "receiver"]
theorem sc_Sending_send : FnScope sc_Sending_send_N ["self", "transmission"] (defScope s_Sending_send) := ⟨rfl, rfl, rfl, by decide +kernel, rfl, by decide +kernel, by decide +kernel⟩
abbrev s_Sending_margins : Stmt := inClass (topS 44) 4
abbrev sc_Sending_margins_N : List Str := ["self"]
theorem sc_Sending_margins : FnScope sc_Sending_margins_N ["self"] (defScope s_Sending_margins) := ⟨rfl, rfl, rfl, by decide +kernel, rfl, by decide +kernel, by decide +kernel⟩
abbrev s_Sending_is_informed : Stmt := inClass (topS 44) 5
abbrev sc_Sending_is_informed_N : List Str := ["self", "node", "everything", "span"]
theorem sc_Sending_is_informed : FnScope sc_Sending_is_informed_N ["self", "node"] (defScope s_Sending_is_informed) := ⟨rfl, rfl, rfl, by decide +kernel, rfl, by decide +kernel, by decide +kernel⟩
abbrev s_Sending_is_over : Stmt := inClass (topS 44) 6
abbrev sc_Sending_is_over_N : List Str := ["self"]
theorem sc_Sending_is_over : FnScope sc_Sending_is_over_N ["self"] (defScope s_Sending_is_over) := ⟨rfl, rfl, rfl, by decide +kernel, rfl, by decide +kernel, by decide +kernel⟩
abbrev s_Sending_possible_ones : Stmt := inClass (topS 44) 7
abbrev sc_Sending_possible_ones_N : List Str := ["self", "margins", "tight", "found", "link", "text", "spans", "origin", "index", "nodes"]
theorem sc_Sending_possible_ones : FnScope sc_Sending_possible_ones_N ["self", "margins", "tight"] (defScope s_Sending_possible_ones) := ⟨rfl, rfl, rfl, by decide +kernel, rfl, by decide +kernel, by decide +kernel⟩
abbrev s_Sending_next_ones : Stmt := inClass (topS 44) 8
abbrev sc_Sending_next_ones_N : List Str := ["self"]
theorem sc_Sending_next_ones : FnScope sc_Sending_next_ones_N ["self"] (defScope s_Sending_next_ones) := ⟨rfl, rfl, rfl, by decide +kernel, rfl, by decide +kernel, by decide +kernel⟩
abbrev s_Sending_finish : Stmt := inClass (topS 44) 9
abbrev sc_Sending_finish_N : List Str := ["self"]
theorem sc_Sending_finish : FnScope sc_Sending_finish_N ["self"] (defScope s_Sending_finish) := ⟨rfl, rfl, rfl, by decide +kernel, rfl, by decide +kernel, by decide +kernel⟩
abbrev s_checked_transmissions : Stmt := topS 45
abbrev sc_checked_transmissions_N : List Str := ["network", "transmissions", "checked", "link", "origin", "index"]
theorem sc_checked_transmissions : FnScope sc_checked_transmissions_N ["network", "transmissions"] (defScope s_checked_transmissions) := ⟨rfl, rfl, rfl, by decide +kernel, rfl, by decide +kernel, by decide +kernel⟩
abbrev s_sending_after : Stmt := topS 46
abbrev sc_sending_after_N : List Str := ["network", "checked", "sending", "transmission"]
theorem sc_sending_after : FnScope sc_sending_after_N ["network", "checked"] (defScope s_sending_after) := ⟨rfl, rfl, rfl, by decide +kernel, rfl, by decide +kernel, by decide +kernel⟩
abbrev s_is_new_to_all : Stmt := topS 47
abbrev sc_is_new_to_all_N : List Str := ["spans", "mask", "span"]
theorem sc_is_new_to_all : FnScope sc_is_new_to_all_N ["spans", "mask"] (defScope s_is_new_to_all) := ⟨rfl, rfl, rfl, by decide +kernel, rfl, by decide +kernel, by decide +kernel⟩
abbrev s_first_set : Stmt := topS 50
abbrev sc_first_set_N : List Str := ["network", "targets"]
theorem sc_first_set : FnScope sc_first_set_N ["network", "targets"] (defScope s_first_set) := ⟨rfl, rfl, rfl, by decide +kernel, rfl, by decide +kernel, by decide +kernel⟩
abbrev s_is_feasible_for : Stmt := topS 51
abbrev sc_is_feasible_for_N : List Str := ["network", "targets"]
theorem sc_is_feasible_for : FnScope sc_is_feasible_for_N ["network", "targets"] (defScope s_is_feasible_for) := ⟨rfl, rfl, rfl, by decide +kernel, rfl, by decide +kernel, by decide +kernel⟩
abbrev s_feasible_alone : Stmt := topS 52
abbrev sc_feasible_alone_N : List Str := ["network", "targets", "deficient", "target"]
theorem sc_feasible_alone : FnScope sc_feasible_alone_N ["network", "targets"] (defScope s_feasible_alone) := ⟨rfl, rfl, rfl, by decide +kernel, rfl, by decide +kernel, by decide +kernel⟩
abbrev s_critical_links : Stmt := topS 53
abbrev sc_critical_links_N : List Str := ["network", "targets", "tight", "number", "link"]
theorem sc_critical_links : FnScope sc_critical_links_N ["network", "targets"] (defScope s_critical_links) := ⟨rfl, rfl, rfl, by decide +kernel, rfl, by decide +kernel, by decide +kernel⟩
abbrev s_delivery : Stmt := topS 54
abbrev sc_delivery_N : List Str := ["network", "targets", "target", "sending", "taken", "margins", "tight", "transmission"]
theorem sc_delivery : FnScope sc_delivery_N ["network", "targets", "target"] (defScope s_delivery) := ⟨rfl, rfl, rfl, by decide +kernel, rfl, by decide +kernel, by decide +kernel⟩
abbrev s_is_complete_for : Stmt := topS 55
abbrev sc_is_complete_for_N : List Str := ["network", "targets", "transmissions", "sending", "target"]
theorem sc_is_complete_for : FnScope sc_is_complete_for_N ["network", "targets", "transmissions"] (defScope s_is_complete_for) := ⟨rfl, rfl, rfl, by decide +kernel, rfl, by decide +kernel, by decide +kernel⟩
abbrev s_with_any : Stmt := topS 56
abbrev sc_with_any_N : List Str := ["sets", "targets", "nodes", "target"]
theorem sc_with_any : FnScope sc_with_any_N ["sets", "targets"] (defScope s_with_any) := ⟨rfl, rfl, rfl, by decide +kernel, rfl, by decide +kernel, by decide +kernel⟩
abbrev s_first_with : Stmt := topS 57
abbrev sc_first_with_N : List Str := ["sets", "targets", "found"]
theorem sc_first_with : FnScope sc_first_with_N ["sets", "targets"] (defScope s_first_with) := ⟨rfl, rfl, rfl, by decide +kernel, rfl, by decide +kernel, by decide +kernel⟩
abbrev s_leading_to : Stmt := topS 58
abbrev sc_leading_to_N : List Str := ["network", "taken", "target", "kept", "carried_on", "link", "origin", "index", "sender", "receiver"]
theorem sc_leading_to : FnScope sc_leading_to_N ["network", "taken", "target"] (defScope s_leading_to) := ⟨rfl, rfl, rfl, by decide +kernel, rfl, by decide +kernel, by decide +kernel⟩
abbrev s_law_pool : Stmt := topS 60
abbrev sc_law_pool_N : List Str := ["script", "cell"]
theorem sc_law_pool : FnScope sc_law_pool_N ["script"] (defScope s_law_pool) := ⟨rfl, rfl, rfl, by decide +kernel, rfl, by decide +kernel, by decide +kernel⟩
abbrev s_law_take : Stmt := topS 61
abbrev sc_law_take_N : List Str := ["pool", "many", "digit", "cell", "mixed"]
theorem sc_law_take : FnScope sc_law_take_N ["pool", "many"] (defScope s_law_take) := ⟨rfl, rfl, rfl, by decide +kernel, rfl, by decide +kernel, by decide +kernel⟩
abbrev s_law_is_integer : Stmt := topS 62
abbrev sc_law_is_integer_N : List Str := ["actual"]
theorem sc_law_is_integer : FnScope sc_law_is_integer_N ["actual"] (defScope s_law_is_integer) := ⟨rfl, rfl, rfl, by decide +kernel, rfl, by decide +kernel, by decide +kernel⟩
abbrev s_law_same : Stmt := topS 63
abbrev sc_law_same_N : List Str := ["actual", "due", "k"]
theorem sc_law_same : FnScope sc_law_same_N ["actual", "due"] (defScope s_law_same) := ⟨rfl, rfl, rfl, by decide +kernel, rfl, by decide +kernel, by decide +kernel⟩
abbrev s_law_pick : Stmt := topS 64
abbrev sc_law_pick_N : List Str := ["pool", "rows"]
theorem sc_law_pick : FnScope sc_law_pick_N ["pool", "rows"] (defScope s_law_pick) := ⟨rfl, rfl, rfl, by decide +kernel, rfl, by decide +kernel, by decide +kernel⟩
abbrev s_law_parity : Stmt := topS 65
abbrev sc_law_parity_N : List Str := ["pool", "variables", "letters", "letter"]
theorem sc_law_parity : FnScope sc_law_parity_N ["pool", "variables"] (defScope s_law_parity) := ⟨rfl, rfl, rfl, by decide +kernel, rfl, by decide +kernel, by decide +kernel⟩
abbrev s_law_message : Stmt := topS 66
abbrev sc_law_message_N : List Str := ["pool", "variables", "letters", "found"]
theorem sc_law_message : FnScope sc_law_message_N ["pool", "variables"] (defScope s_law_message) := ⟨rfl, rfl, rfl, by decide +kernel, rfl, by decide +kernel, by decide +kernel⟩
abbrev s_law_sum : Stmt := topS 67
abbrev sc_law_sum_N : List Str := ["texts", "whole", "letter"]
theorem sc_law_sum : FnScope sc_law_sum_N ["texts"] (defScope s_law_sum) := ⟨rfl, rfl, rfl, by decide +kernel, rfl, by decide +kernel, by decide +kernel⟩
abbrev s_law_derived : Stmt := topS 68
abbrev sc_law_derived_N : List Str := ["messages", "found", "message", "one"]
theorem sc_law_derived : FnScope sc_law_derived_N ["messages"] (defScope s_law_derived) := ⟨rfl, rfl, rfl, by decide +kernel, rfl, by decide +kernel, by decide +kernel⟩
abbrev s_law_rank : Stmt := topS 69
abbrev sc_law_rank_N : List Str := ["messages", "many", "found", "turn"]
theorem sc_law_rank : FnScope sc_law_rank_N ["messages"] (defScope s_law_rank) := ⟨rfl, rfl, rfl, by decide +kernel, rfl, by decide +kernel, by decide +kernel⟩
abbrev s_law_some_messages : Stmt := topS 70
abbrev sc_law_some_messages_N : List Str := ["pool", "variables", "most", "k"]
theorem sc_law_some_messages : FnScope sc_law_some_messages_N ["pool", "variables", "most"] (defScope s_law_some_messages) := ⟨rfl, rfl, rfl, by decide +kernel, rfl, by decide +kernel, by decide +kernel⟩
abbrev s_law_drawn : Stmt := topS 71
abbrev sc_law_drawn_N : List Str := ["pool", "nodes", "links", "variables", "rows", "letters", "found", "k", "sender", "receiver"]
theorem sc_law_drawn : FnScope sc_law_drawn_N ["pool", "nodes", "links"] (defScope s_law_drawn) := ⟨rfl, rfl, rfl, by decide +kernel, rfl, by decide +kernel, by decide +kernel⟩
abbrev s_law_filled : Stmt := topS 72
abbrev sc_law_filled_N : List Str := ["pool", "nodes", "links", "network", "turn", "lacking", "letters", "others", "letter"]
theorem sc_law_filled : FnScope sc_law_filled_N ["pool", "nodes", "links"] (defScope s_law_filled) := ⟨rfl, rfl, rfl, by decide +kernel, rfl, by decide +kernel, by decide +kernel⟩
abbrev s_law_network : Stmt := topS 73
abbrev sc_law_network_N : List Str := ["pool", "nodes", "links", "kind", "network", "at", "link"]
theorem sc_law_network : FnScope sc_law_network_N ["pool", "nodes", "links"] (defScope s_law_network) := ⟨rfl, rfl, rfl, by decide +kernel, rfl, by decide +kernel, by decide +kernel⟩
abbrev s_law_shaped : Stmt := topS 74
abbrev sc_law_shaped_N : List Str := ["pool", "rows"]
theorem sc_law_shaped : FnScope sc_law_shaped_N ["pool", "rows"] (defScope s_law_shaped) := ⟨rfl, rfl, rfl, by decide +kernel, rfl, by decide +kernel, by decide +kernel⟩
abbrev s_law_handed : Stmt := topS 75
abbrev sc_law_handed_N : List Str := ["pool", "network", "nodes", "messages"]
theorem sc_law_handed : FnScope sc_law_handed_N ["pool", "network"] (defScope s_law_handed) := ⟨rfl, rfl, rfl, by decide +kernel, rfl, by decide +kernel, by decide +kernel⟩
abbrev s_law_sets : Stmt := topS 76
abbrev sc_law_sets_N : List Str := ["many", "found", "letter", "one", "pair"]
theorem sc_law_sets : FnScope sc_law_sets_N ["many"] (defScope s_law_sets) := ⟨rfl, rfl, rfl, by decide +kernel, rfl, by decide +kernel, by decide +kernel⟩
abbrev s_law_messages_of : Stmt := topS 77
abbrev sc_law_messages_of_N : List Str := ["network", "letters", "found", "k"]
theorem sc_law_messages_of : FnScope sc_law_messages_of_N ["network", "letters"] (defScope s_law_messages_of) := ⟨rfl, rfl, rfl, by decide +kernel, rfl, by decide +kernel, by decide +kernel⟩
abbrev s_law_demand : Stmt := topS 78
abbrev sc_law_demand_N : List Str := ["network", "letters"]
theorem sc_law_demand : FnScope sc_law_demand_N ["network", "letters"] (defScope s_law_demand) := ⟨rfl, rfl, rfl, by decide +kernel, rfl, by decide +kernel, by decide +kernel⟩
abbrev s_law_entering : Stmt := topS 79
abbrev sc_law_entering_N : List Str := ["network", "letters", "k"]
theorem sc_law_entering : FnScope sc_law_entering_N ["network", "letters"] (defScope s_law_entering) := ⟨rfl, rfl, rfl, by decide +kernel, rfl, by decide +kernel, by decide +kernel⟩
abbrev s_law_deficient : Stmt := topS 80
abbrev sc_law_deficient_N : List Str := ["network", "letters"]
theorem sc_law_deficient : FnScope sc_law_deficient_N ["network"] (defScope s_law_deficient) := ⟨rfl, rfl, rfl, by decide +kernel, rfl, by decide +kernel, by decide +kernel⟩
abbrev s_law_first_set : Stmt := topS 81
abbrev sc_law_first_set_N : List Str := ["network", "targets", "letters", "letter"]
theorem sc_law_first_set : FnScope sc_law_first_set_N ["network", "targets"] (defScope s_law_first_set) := ⟨rfl, rfl, rfl, by decide +kernel, rfl, by decide +kernel, by decide +kernel⟩
abbrev s_law_targets : Stmt := topS 82
abbrev sc_law_targets_N : List Str := ["pool", "network", "letters", "found", "letter"]
theorem sc_law_targets : FnScope sc_law_targets_N ["pool", "network"] (defScope s_law_targets) := ⟨rfl, rfl, rfl, by decide +kernel, rfl, by decide +kernel, by decide +kernel⟩
abbrev s_law_critical : Stmt := topS 83
abbrev sc_law_critical_N : List Str := ["network", "targets", "found", "link", "left", "fewer"]
theorem sc_law_critical : FnScope sc_law_critical_N ["network", "targets"] (defScope s_law_critical) := ⟨rfl, rfl, rfl, by decide +kernel, rfl, by decide +kernel, by decide +kernel⟩
abbrev s_law_refused : Stmt := topS 84
abbrev sc_law_refused_N : List Str := ["network", "text", "kind", "error"]
theorem sc_law_refused : FnScope sc_law_refused_N ["network", "text", "kind"] (defScope s_law_refused) := ⟨rfl, rfl, rfl, by decide +kernel, rfl, by decide +kernel, by decide +kernel⟩
abbrev s_law : Stmt := topS 85
abbrev sc_law_N : List Str := ["script", "pool", "drawn", "handed", "network", "turn", "targets", "first", "alone", "text", "letter"]
theorem sc_law : FnScope sc_law_N ["script"] (defScope s_law) := ⟨rfl, rfl, rfl, by decide +kernel, rfl, by decide +kernel, by decide +kernel⟩
structure Ads where
  a_BadNetwork_init : Addr
  d_BadNetwork_init : FuncData
  a_Network_init : Addr
  d_Network_init : FuncData
  cG_Network_init : Addr
  tG_Network_init : Addr
  a_Network_node_letters : Addr
  d_Network_node_letters : FuncData
  a_Network_variable_letters : Addr
  d_Network_variable_letters : FuncData
  a_Network_messages : Addr
  d_Network_messages : FuncData
  a_Network_all_messages : Addr
  d_Network_all_messages : FuncData
  a_is_message : Addr
  d_is_message : FuncData
  a_is_link : Addr
  d_is_link : FuncData
  a_node_number : Addr
  d_node_number : FuncData
  a_require_set : Addr
  d_require_set : FuncData
  a_has_link : Addr
  d_has_link : FuncData
  a_require_link : Addr
  d_require_link : FuncData
  a_require_message : Addr
  d_require_message : FuncData
  a_first_letters : Addr
  d_first_letters : FuncData
  a_is_ascending : Addr
  d_is_ascending : FuncData
  a_check_variables : Addr
  d_check_variables : FuncData
  a_check_nodes : Addr
  d_check_nodes : FuncData
  a_check_links : Addr
  d_check_links : FuncData
  a_mask_of : Addr
  d_mask_of : FuncData
  a_remainder : Addr
  d_remainder : FuncData
  a_spanned : Addr
  d_spanned : FuncData
  t_spanned : Addr
  a_first_masks : Addr
  d_first_masks : FuncData
  a_Margins_init : Addr
  d_Margins_init : FuncData
  a_Margins_deficient : Addr
  d_Margins_deficient : FuncData
  a_Margins_tight : Addr
  d_Margins_tight : FuncData
  a_Margins_first_deficient : Addr
  d_Margins_first_deficient : FuncData
  a_Margins_is_feasible : Addr
  d_Margins_is_feasible : FuncData
  a_Margins_needed : Addr
  d_Margins_needed : FuncData
  a_Margins_tolerance : Addr
  d_Margins_tolerance : FuncData
  a_Margins_tolerance_after : Addr
  d_Margins_tolerance_after : FuncData
  a_first_spans : Addr
  d_first_spans : FuncData
  a_margins_of : Addr
  d_margins_of : FuncData
  a_ordered_sets : Addr
  d_ordered_sets : FuncData
  a_enters : Addr
  d_enters : FuncData
  a_enters_any : Addr
  d_enters_any : FuncData
  a_entering : Addr
  d_entering : FuncData
  a_Sending_init : Addr
  d_Sending_init : FuncData
  a_Sending_learn : Addr
  d_Sending_learn : FuncData
  a_Sending_hindrance : Addr
  d_Sending_hindrance : FuncData
  a_Sending_send : Addr
  d_Sending_send : FuncData
  a_Sending_margins : Addr
  d_Sending_margins : FuncData
  a_Sending_is_informed : Addr
  d_Sending_is_informed : FuncData
  a_Sending_is_over : Addr
  d_Sending_is_over : FuncData
  a_Sending_possible_ones : Addr
  d_Sending_possible_ones : FuncData
  a_Sending_next_ones : Addr
  d_Sending_next_ones : FuncData
  a_Sending_finish : Addr
  d_Sending_finish : FuncData
  a_checked_transmissions : Addr
  d_checked_transmissions : FuncData
  a_sending_after : Addr
  d_sending_after : FuncData
  a_is_new_to_all : Addr
  d_is_new_to_all : FuncData
  a_first_set : Addr
  d_first_set : FuncData
  a_is_feasible_for : Addr
  d_is_feasible_for : FuncData
  a_feasible_alone : Addr
  d_feasible_alone : FuncData
  a_critical_links : Addr
  d_critical_links : FuncData
  a_delivery : Addr
  d_delivery : FuncData
  a_is_complete_for : Addr
  d_is_complete_for : FuncData
  a_with_any : Addr
  d_with_any : FuncData
  a_first_with : Addr
  d_first_with : FuncData
  a_leading_to : Addr
  d_leading_to : FuncData
  a_law_pool : Addr
  d_law_pool : FuncData
  a_law_take : Addr
  d_law_take : FuncData
  a_law_is_integer : Addr
  d_law_is_integer : FuncData
  a_law_same : Addr
  d_law_same : FuncData
  a_law_pick : Addr
  d_law_pick : FuncData
  a_law_parity : Addr
  d_law_parity : FuncData
  a_law_message : Addr
  d_law_message : FuncData
  a_law_sum : Addr
  d_law_sum : FuncData
  a_law_derived : Addr
  d_law_derived : FuncData
  a_law_rank : Addr
  d_law_rank : FuncData
  a_law_some_messages : Addr
  d_law_some_messages : FuncData
  a_law_drawn : Addr
  d_law_drawn : FuncData
  a_law_filled : Addr
  d_law_filled : FuncData
  a_law_network : Addr
  d_law_network : FuncData
  a_law_shaped : Addr
  d_law_shaped : FuncData
  a_law_handed : Addr
  d_law_handed : FuncData
  a_law_sets : Addr
  d_law_sets : FuncData
  a_law_messages_of : Addr
  d_law_messages_of : FuncData
  a_law_demand : Addr
  d_law_demand : FuncData
  a_law_entering : Addr
  d_law_entering : FuncData
  a_law_deficient : Addr
  d_law_deficient : FuncData
  a_law_first_set : Addr
  d_law_first_set : FuncData
  a_law_targets : Addr
  d_law_targets : FuncData
  a_law_critical : Addr
  d_law_critical : FuncData
  a_law_refused : Addr
  d_law_refused : FuncData
  a_law : Addr
  d_law : FuncData
  c_Network : Addr
  c_Margins : Addr
  c_Sending : Addr
  c_KnowError : Addr
  c_BadNetwork : Addr
  c_NoNode : Addr
  c_NoSet : Addr
  t_VARIABLE_LETTERS : Tok
  t_NODE_LETTERS : Tok
  t_MOST_VARIABLES : Tok
  t_MOST_NODES : Tok
  t_MOST_MESSAGES : Tok
  t_MOST_LINKS : Tok
  t_PARITY_LETTERS : Tok
structure Txt (K : PySem.W.Frag) (mg : Str → Option Value) (a : Ads) : Prop where
  F_BadNetwork_init : Fun K "__init__" "BadNetwork.__init__" s_BadNetwork_init a.a_BadNetwork_init a.d_BadNetwork_init
  b_BadNetwork_init : Binds K a.d_BadNetwork_init ["self", "part", "number", "reason"] []
  I_BadNetwork_init : PySem.W.findIn K (.ref a.c_BadNetwork) "__init__" = some (some (.ref a.a_BadNetwork_init))
  T_BadNetwork_init : PySem.W.typeIn K (.ref a.a_BadNetwork_init) = some (.type "function")
  F_Network_init : Fun K "__init__" "Network.__init__" s_Network_init a.a_Network_init a.d_Network_init
  b_Network_init : Binds K a.d_Network_init ["self", "variables", "nodes", "links"] []
  FC_Network_init : FunC K "__init__" "Network.__init__" s_Network_init a.a_Network_init a.d_Network_init a.cG_Network_init
  K_Network : Mk K a.c_Network a.a_Network_init
  F_Network_node_letters : Fun K "node_letters" "Network.node_letters" s_Network_node_letters a.a_Network_node_letters a.d_Network_node_letters
  b_Network_node_letters : Binds K a.d_Network_node_letters ["self"] []
  M_Network_node_letters : Meth K a.c_Network "node_letters" a.a_Network_node_letters
  F_Network_variable_letters : Fun K "variable_letters" "Network.variable_letters" s_Network_variable_letters a.a_Network_variable_letters a.d_Network_variable_letters
  b_Network_variable_letters : Binds K a.d_Network_variable_letters ["self"] []
  M_Network_variable_letters : Meth K a.c_Network "variable_letters" a.a_Network_variable_letters
  F_Network_messages : Fun K "messages" "Network.messages" s_Network_messages a.a_Network_messages a.d_Network_messages
  b_Network_messages : Binds K a.d_Network_messages ["self", "node"] []
  M_Network_messages : Meth K a.c_Network "messages" a.a_Network_messages
  F_Network_all_messages : Fun K "all_messages" "Network.all_messages" s_Network_all_messages a.a_Network_all_messages a.d_Network_all_messages
  b_Network_all_messages : Binds K a.d_Network_all_messages ["self"] []
  M_Network_all_messages : Meth K a.c_Network "all_messages" a.a_Network_all_messages
  F_is_message : Fun K "is_message" "is_message" s_is_message a.a_is_message a.d_is_message
  b_is_message : Binds K a.d_is_message ["variables", "text"] []
  g_is_message : mg "is_message" = some (.ref a.a_is_message)
  F_is_link : Fun K "is_link" "is_link" s_is_link a.a_is_link a.d_is_link
  b_is_link : Binds K a.d_is_link ["nodes", "text"] []
  g_is_link : mg "is_link" = some (.ref a.a_is_link)
  F_node_number : Fun K "node_number" "node_number" s_node_number a.a_node_number a.d_node_number
  b_node_number : Binds K a.d_node_number ["network", "node"] []
  g_node_number : mg "node_number" = some (.ref a.a_node_number)
  F_require_set : Fun K "require_set" "require_set" s_require_set a.a_require_set a.d_require_set
  b_require_set : Binds K a.d_require_set ["network", "nodes"] []
  g_require_set : mg "require_set" = some (.ref a.a_require_set)
  F_has_link : Fun K "has_link" "has_link" s_has_link a.a_has_link a.d_has_link
  b_has_link : Binds K a.d_has_link ["network", "link"] []
  g_has_link : mg "has_link" = some (.ref a.a_has_link)
  F_require_link : Fun K "require_link" "require_link" s_require_link a.a_require_link a.d_require_link
  b_require_link : Binds K a.d_require_link ["network", "link"] []
  g_require_link : mg "require_link" = some (.ref a.a_require_link)
  F_require_message : Fun K "require_message" "require_message" s_require_message a.a_require_message a.d_require_message
  b_require_message : Binds K a.d_require_message ["network", "node", "index"] []
  g_require_message : mg "require_message" = some (.ref a.a_require_message)
  F_first_letters : Fun K "first_letters" "first_letters" s_first_letters a.a_first_letters a.d_first_letters
  b_first_letters : Binds K a.d_first_letters ["letters", "count"] []
  g_first_letters : mg "first_letters" = some (.ref a.a_first_letters)
  F_is_ascending : Fun K "is_ascending" "is_ascending" s_is_ascending a.a_is_ascending a.d_is_ascending
  b_is_ascending : Binds K a.d_is_ascending ["letters", "text"] []
  g_is_ascending : mg "is_ascending" = some (.ref a.a_is_ascending)
  F_check_variables : Fun K "_check_variables" "_check_variables" s_check_variables a.a_check_variables a.d_check_variables
  b_check_variables : Binds K a.d_check_variables ["variables"] []
  g_check_variables : mg "_check_variables" = some (.ref a.a_check_variables)
  F_check_nodes : Fun K "_check_nodes" "_check_nodes" s_check_nodes a.a_check_nodes a.d_check_nodes
  b_check_nodes : Binds K a.d_check_nodes ["variables", "nodes"] []
  g_check_nodes : mg "_check_nodes" = some (.ref a.a_check_nodes)
  F_check_links : Fun K "_check_links" "_check_links" s_check_links a.a_check_links a.d_check_links
  b_check_links : Binds K a.d_check_links ["nodes", "links"] []
  g_check_links : mg "_check_links" = some (.ref a.a_check_links)
  F_mask_of : Fun K "mask_of" "mask_of" s_mask_of a.a_mask_of a.d_mask_of
  b_mask_of : Binds K a.d_mask_of ["parity"] []
  g_mask_of : mg "mask_of" = some (.ref a.a_mask_of)
  F_remainder : Fun K "remainder" "remainder" s_remainder a.a_remainder a.d_remainder
  b_remainder : Binds K a.d_remainder ["span", "mask"] []
  g_remainder : mg "remainder" = some (.ref a.a_remainder)
  F_spanned : FunD K "spanned" "spanned" (defArgs s_spanned) (defBody s_spanned) (defScope s_spanned) [.ref a.t_spanned] [] a.a_spanned a.d_spanned
  b_spanned : Binds K a.d_spanned ["masks", "span"] []
  b1_spanned : ∃ ds, Vals [V.ref a.t_spanned] ds ∧ Binds K a.d_spanned ["masks", "span"] ds
  e_spanned : ∀ H : Hp, SqT K H a.t_spanned []
  k_spanned : PySem.W.keepIn K (.ref a.a_spanned) = true
  g_spanned : mg "spanned" = some (.ref a.a_spanned)
  F_first_masks : Fun K "first_masks" "first_masks" s_first_masks a.a_first_masks a.d_first_masks
  b_first_masks : Binds K a.d_first_masks ["network"] []
  g_first_masks : mg "first_masks" = some (.ref a.a_first_masks)
  F_Margins_init : Fun K "__init__" "Margins.__init__" s_Margins_init a.a_Margins_init a.d_Margins_init
  b_Margins_init : Binds K a.d_Margins_init ["self", "node_spans", "links"] []
  K_Margins : Mk K a.c_Margins a.a_Margins_init
  F_Margins_deficient : Fun K "deficient" "Margins.deficient" s_Margins_deficient a.a_Margins_deficient a.d_Margins_deficient
  b_Margins_deficient : Binds K a.d_Margins_deficient ["self"] []
  M_Margins_deficient : Meth K a.c_Margins "deficient" a.a_Margins_deficient
  F_Margins_tight : Fun K "tight" "Margins.tight" s_Margins_tight a.a_Margins_tight a.d_Margins_tight
  b_Margins_tight : Binds K a.d_Margins_tight ["self"] []
  M_Margins_tight : Meth K a.c_Margins "tight" a.a_Margins_tight
  F_Margins_first_deficient : Fun K "first_deficient" "Margins.first_deficient" s_Margins_first_deficient a.a_Margins_first_deficient a.d_Margins_first_deficient
  b_Margins_first_deficient : Binds K a.d_Margins_first_deficient ["self"] []
  M_Margins_first_deficient : Meth K a.c_Margins "first_deficient" a.a_Margins_first_deficient
  F_Margins_is_feasible : Fun K "is_feasible" "Margins.is_feasible" s_Margins_is_feasible a.a_Margins_is_feasible a.d_Margins_is_feasible
  b_Margins_is_feasible : Binds K a.d_Margins_is_feasible ["self"] []
  M_Margins_is_feasible : Meth K a.c_Margins "is_feasible" a.a_Margins_is_feasible
  F_Margins_needed : Fun K "needed" "Margins.needed" s_Margins_needed a.a_Margins_needed a.d_Margins_needed
  b_Margins_needed : Binds K a.d_Margins_needed ["self"] []
  M_Margins_needed : Meth K a.c_Margins "needed" a.a_Margins_needed
  F_Margins_tolerance : Fun K "tolerance" "Margins.tolerance" s_Margins_tolerance a.a_Margins_tolerance a.d_Margins_tolerance
  b_Margins_tolerance : Binds K a.d_Margins_tolerance ["self"] []
  M_Margins_tolerance : Meth K a.c_Margins "tolerance" a.a_Margins_tolerance
  F_Margins_tolerance_after : Fun K "tolerance_after" "Margins.tolerance_after" s_Margins_tolerance_after a.a_Margins_tolerance_after a.d_Margins_tolerance_after
  b_Margins_tolerance_after : Binds K a.d_Margins_tolerance_after ["self", "link", "mask"] []
  M_Margins_tolerance_after : Meth K a.c_Margins "tolerance_after" a.a_Margins_tolerance_after
  F_first_spans : Fun K "first_spans" "first_spans" s_first_spans a.a_first_spans a.d_first_spans
  b_first_spans : Binds K a.d_first_spans ["network"] []
  g_first_spans : mg "first_spans" = some (.ref a.a_first_spans)
  F_margins_of : Fun K "margins_of" "margins_of" s_margins_of a.a_margins_of a.d_margins_of
  b_margins_of : Binds K a.d_margins_of ["network"] []
  g_margins_of : mg "margins_of" = some (.ref a.a_margins_of)
  F_ordered_sets : Fun K "ordered_sets" "ordered_sets" s_ordered_sets a.a_ordered_sets a.d_ordered_sets
  b_ordered_sets : Binds K a.d_ordered_sets ["letters"] []
  g_ordered_sets : mg "ordered_sets" = some (.ref a.a_ordered_sets)
  F_enters : Fun K "enters" "enters" s_enters a.a_enters a.d_enters
  b_enters : Binds K a.d_enters ["link", "nodes"] []
  g_enters : mg "enters" = some (.ref a.a_enters)
  F_enters_any : Fun K "enters_any" "enters_any" s_enters_any a.a_enters_any a.d_enters_any
  b_enters_any : Binds K a.d_enters_any ["link", "sets"] []
  g_enters_any : mg "enters_any" = some (.ref a.a_enters_any)
  F_entering : Fun K "entering" "entering" s_entering a.a_entering a.d_entering
  b_entering : Binds K a.d_entering ["links", "nodes"] []
  g_entering : mg "entering" = some (.ref a.a_entering)
  F_Sending_init : Fun K "__init__" "Sending.__init__" s_Sending_init a.a_Sending_init a.d_Sending_init
  b_Sending_init : Binds K a.d_Sending_init ["self", "network"] []
  K_Sending : Mk K a.c_Sending a.a_Sending_init
  F_Sending_learn : Fun K "learn" "Sending.learn" s_Sending_learn a.a_Sending_learn a.d_Sending_learn
  b_Sending_learn : Binds K a.d_Sending_learn ["self", "node", "text"] []
  M_Sending_learn : Meth K a.c_Sending "learn" a.a_Sending_learn
  F_Sending_hindrance : Fun K "hindrance" "Sending.hindrance" s_Sending_hindrance a.a_Sending_hindrance a.d_Sending_hindrance
  b_Sending_hindrance : Binds K a.d_Sending_hindrance ["self", "transmission"] []
  M_Sending_hindrance : Meth K a.c_Sending "hindrance" a.a_Sending_hindrance
  F_Sending_send : Fun K "send" "Sending.send" s_Sending_send a.a_Sending_send a.d_Sending_send
  b_Sending_send : Binds K a.d_Sending_send ["self", "transmission"] []
  M_Sending_send : Meth K a.c_Sending "send" a.a_Sending_send
  F_Sending_margins : Fun K "margins" "Sending.margins" s_Sending_margins a.a_Sending_margins a.d_Sending_margins
  b_Sending_margins : Binds K a.d_Sending_margins ["self"] []
  M_Sending_margins : Meth K a.c_Sending "margins" a.a_Sending_margins
  F_Sending_is_informed : Fun K "is_informed" "Sending.is_informed" s_Sending_is_informed a.a_Sending_is_informed a.d_Sending_is_informed
  b_Sending_is_informed : Binds K a.d_Sending_is_informed ["self", "node"] []
  M_Sending_is_informed : Meth K a.c_Sending "is_informed" a.a_Sending_is_informed
  F_Sending_is_over : Fun K "is_over" "Sending.is_over" s_Sending_is_over a.a_Sending_is_over a.d_Sending_is_over
  b_Sending_is_over : Binds K a.d_Sending_is_over ["self"] []
  M_Sending_is_over : Meth K a.c_Sending "is_over" a.a_Sending_is_over
  F_Sending_possible_ones : Fun K "possible_ones" "Sending.possible_ones" s_Sending_possible_ones a.a_Sending_possible_ones a.d_Sending_possible_ones
  b_Sending_possible_ones : Binds K a.d_Sending_possible_ones ["self", "margins", "tight"] []
  M_Sending_possible_ones : Meth K a.c_Sending "possible_ones" a.a_Sending_possible_ones
  F_Sending_next_ones : Fun K "next_ones" "Sending.next_ones" s_Sending_next_ones a.a_Sending_next_ones a.d_Sending_next_ones
  b_Sending_next_ones : Binds K a.d_Sending_next_ones ["self"] []
  M_Sending_next_ones : Meth K a.c_Sending "next_ones" a.a_Sending_next_ones
  F_Sending_finish : Fun K "finish" "Sending.finish" s_Sending_finish a.a_Sending_finish a.d_Sending_finish
  b_Sending_finish : Binds K a.d_Sending_finish ["self"] []
  M_Sending_finish : Meth K a.c_Sending "finish" a.a_Sending_finish
  F_checked_transmissions : Fun K "checked_transmissions" "checked_transmissions" s_checked_transmissions a.a_checked_transmissions a.d_checked_transmissions
  b_checked_transmissions : Binds K a.d_checked_transmissions ["network", "transmissions"] []
  g_checked_transmissions : mg "checked_transmissions" = some (.ref a.a_checked_transmissions)
  F_sending_after : Fun K "sending_after" "sending_after" s_sending_after a.a_sending_after a.d_sending_after
  b_sending_after : Binds K a.d_sending_after ["network", "checked"] []
  g_sending_after : mg "sending_after" = some (.ref a.a_sending_after)
  F_is_new_to_all : Fun K "is_new_to_all" "is_new_to_all" s_is_new_to_all a.a_is_new_to_all a.d_is_new_to_all
  b_is_new_to_all : Binds K a.d_is_new_to_all ["spans", "mask"] []
  g_is_new_to_all : mg "is_new_to_all" = some (.ref a.a_is_new_to_all)
  F_first_set : Fun K "first_set" "first_set" s_first_set a.a_first_set a.d_first_set
  b_first_set : Binds K a.d_first_set ["network", "targets"] []
  g_first_set : mg "first_set" = some (.ref a.a_first_set)
  F_is_feasible_for : Fun K "is_feasible_for" "is_feasible_for" s_is_feasible_for a.a_is_feasible_for a.d_is_feasible_for
  b_is_feasible_for : Binds K a.d_is_feasible_for ["network", "targets"] []
  g_is_feasible_for : mg "is_feasible_for" = some (.ref a.a_is_feasible_for)
  F_feasible_alone : Fun K "feasible_alone" "feasible_alone" s_feasible_alone a.a_feasible_alone a.d_feasible_alone
  b_feasible_alone : Binds K a.d_feasible_alone ["network", "targets"] []
  g_feasible_alone : mg "feasible_alone" = some (.ref a.a_feasible_alone)
  F_critical_links : Fun K "critical_links" "critical_links" s_critical_links a.a_critical_links a.d_critical_links
  b_critical_links : Binds K a.d_critical_links ["network", "targets"] []
  g_critical_links : mg "critical_links" = some (.ref a.a_critical_links)
  F_delivery : Fun K "delivery" "delivery" s_delivery a.a_delivery a.d_delivery
  b_delivery : Binds K a.d_delivery ["network", "targets", "target"] []
  g_delivery : mg "delivery" = some (.ref a.a_delivery)
  F_is_complete_for : Fun K "is_complete_for" "is_complete_for" s_is_complete_for a.a_is_complete_for a.d_is_complete_for
  b_is_complete_for : Binds K a.d_is_complete_for ["network", "targets", "transmissions"] []
  g_is_complete_for : mg "is_complete_for" = some (.ref a.a_is_complete_for)
  F_with_any : Fun K "_with_any" "_with_any" s_with_any a.a_with_any a.d_with_any
  b_with_any : Binds K a.d_with_any ["sets", "targets"] []
  g_with_any : mg "_with_any" = some (.ref a.a_with_any)
  F_first_with : Fun K "_first_with" "_first_with" s_first_with a.a_first_with a.d_first_with
  b_first_with : Binds K a.d_first_with ["sets", "targets"] []
  g_first_with : mg "_first_with" = some (.ref a.a_first_with)
  F_leading_to : Fun K "_leading_to" "_leading_to" s_leading_to a.a_leading_to a.d_leading_to
  b_leading_to : Binds K a.d_leading_to ["network", "taken", "target"] []
  g_leading_to : mg "_leading_to" = some (.ref a.a_leading_to)
  F_law_pool : Fun K "_law_pool" "_law_pool" s_law_pool a.a_law_pool a.d_law_pool
  b_law_pool : Binds K a.d_law_pool ["script"] []
  g_law_pool : mg "_law_pool" = some (.ref a.a_law_pool)
  F_law_take : Fun K "_law_take" "_law_take" s_law_take a.a_law_take a.d_law_take
  b_law_take : Binds K a.d_law_take ["pool", "many"] []
  g_law_take : mg "_law_take" = some (.ref a.a_law_take)
  F_law_is_integer : Fun K "_law_is_integer" "_law_is_integer" s_law_is_integer a.a_law_is_integer a.d_law_is_integer
  b_law_is_integer : Binds K a.d_law_is_integer ["actual"] []
  g_law_is_integer : mg "_law_is_integer" = some (.ref a.a_law_is_integer)
  F_law_same : Fun K "_law_same" "_law_same" s_law_same a.a_law_same a.d_law_same
  b_law_same : Binds K a.d_law_same ["actual", "due"] []
  g_law_same : mg "_law_same" = some (.ref a.a_law_same)
  F_law_pick : Fun K "_law_pick" "_law_pick" s_law_pick a.a_law_pick a.d_law_pick
  b_law_pick : Binds K a.d_law_pick ["pool", "rows"] []
  g_law_pick : mg "_law_pick" = some (.ref a.a_law_pick)
  F_law_parity : Fun K "_law_parity" "_law_parity" s_law_parity a.a_law_parity a.d_law_parity
  b_law_parity : Binds K a.d_law_parity ["pool", "variables"] []
  g_law_parity : mg "_law_parity" = some (.ref a.a_law_parity)
  F_law_message : Fun K "_law_message" "_law_message" s_law_message a.a_law_message a.d_law_message
  b_law_message : Binds K a.d_law_message ["pool", "variables"] []
  g_law_message : mg "_law_message" = some (.ref a.a_law_message)
  F_law_sum : Fun K "_law_sum" "_law_sum" s_law_sum a.a_law_sum a.d_law_sum
  b_law_sum : Binds K a.d_law_sum ["texts"] []
  g_law_sum : mg "_law_sum" = some (.ref a.a_law_sum)
  F_law_derived : Fun K "_law_derived" "_law_derived" s_law_derived a.a_law_derived a.d_law_derived
  b_law_derived : Binds K a.d_law_derived ["messages"] []
  g_law_derived : mg "_law_derived" = some (.ref a.a_law_derived)
  F_law_rank : Fun K "_law_rank" "_law_rank" s_law_rank a.a_law_rank a.d_law_rank
  b_law_rank : Binds K a.d_law_rank ["messages"] []
  g_law_rank : mg "_law_rank" = some (.ref a.a_law_rank)
  F_law_some_messages : Fun K "_law_some_messages" "_law_some_messages" s_law_some_messages a.a_law_some_messages a.d_law_some_messages
  b_law_some_messages : Binds K a.d_law_some_messages ["pool", "variables", "most"] []
  g_law_some_messages : mg "_law_some_messages" = some (.ref a.a_law_some_messages)
  F_law_drawn : Fun K "_law_drawn" "_law_drawn" s_law_drawn a.a_law_drawn a.d_law_drawn
  b_law_drawn : Binds K a.d_law_drawn ["pool", "nodes", "links"] []
  g_law_drawn : mg "_law_drawn" = some (.ref a.a_law_drawn)
  F_law_filled : Fun K "_law_filled" "_law_filled" s_law_filled a.a_law_filled a.d_law_filled
  b_law_filled : Binds K a.d_law_filled ["pool", "nodes", "links"] []
  g_law_filled : mg "_law_filled" = some (.ref a.a_law_filled)
  F_law_network : Fun K "_law_network" "_law_network" s_law_network a.a_law_network a.d_law_network
  b_law_network : Binds K a.d_law_network ["pool", "nodes", "links"] []
  g_law_network : mg "_law_network" = some (.ref a.a_law_network)
  F_law_shaped : Fun K "_law_shaped" "_law_shaped" s_law_shaped a.a_law_shaped a.d_law_shaped
  b_law_shaped : Binds K a.d_law_shaped ["pool", "rows"] []
  g_law_shaped : mg "_law_shaped" = some (.ref a.a_law_shaped)
  F_law_handed : Fun K "_law_handed" "_law_handed" s_law_handed a.a_law_handed a.d_law_handed
  b_law_handed : Binds K a.d_law_handed ["pool", "network"] []
  g_law_handed : mg "_law_handed" = some (.ref a.a_law_handed)
  F_law_sets : Fun K "_law_sets" "_law_sets" s_law_sets a.a_law_sets a.d_law_sets
  b_law_sets : Binds K a.d_law_sets ["many"] []
  g_law_sets : mg "_law_sets" = some (.ref a.a_law_sets)
  F_law_messages_of : Fun K "_law_messages_of" "_law_messages_of" s_law_messages_of a.a_law_messages_of a.d_law_messages_of
  b_law_messages_of : Binds K a.d_law_messages_of ["network", "letters"] []
  g_law_messages_of : mg "_law_messages_of" = some (.ref a.a_law_messages_of)
  F_law_demand : Fun K "_law_demand" "_law_demand" s_law_demand a.a_law_demand a.d_law_demand
  b_law_demand : Binds K a.d_law_demand ["network", "letters"] []
  g_law_demand : mg "_law_demand" = some (.ref a.a_law_demand)
  F_law_entering : Fun K "_law_entering" "_law_entering" s_law_entering a.a_law_entering a.d_law_entering
  b_law_entering : Binds K a.d_law_entering ["network", "letters"] []
  g_law_entering : mg "_law_entering" = some (.ref a.a_law_entering)
  F_law_deficient : Fun K "_law_deficient" "_law_deficient" s_law_deficient a.a_law_deficient a.d_law_deficient
  b_law_deficient : Binds K a.d_law_deficient ["network"] []
  g_law_deficient : mg "_law_deficient" = some (.ref a.a_law_deficient)
  F_law_first_set : Fun K "_law_first_set" "_law_first_set" s_law_first_set a.a_law_first_set a.d_law_first_set
  b_law_first_set : Binds K a.d_law_first_set ["network", "targets"] []
  g_law_first_set : mg "_law_first_set" = some (.ref a.a_law_first_set)
  F_law_targets : Fun K "_law_targets" "_law_targets" s_law_targets a.a_law_targets a.d_law_targets
  b_law_targets : Binds K a.d_law_targets ["pool", "network"] []
  g_law_targets : mg "_law_targets" = some (.ref a.a_law_targets)
  F_law_critical : Fun K "_law_critical" "_law_critical" s_law_critical a.a_law_critical a.d_law_critical
  b_law_critical : Binds K a.d_law_critical ["network", "targets"] []
  g_law_critical : mg "_law_critical" = some (.ref a.a_law_critical)
  F_law_refused : Fun K "_law_refused" "_law_refused" s_law_refused a.a_law_refused a.d_law_refused
  b_law_refused : Binds K a.d_law_refused ["network", "text", "kind"] []
  g_law_refused : mg "_law_refused" = some (.ref a.a_law_refused)
  F_law : Fun K "law" "law" s_law a.a_law a.d_law
  b_law : Binds K a.d_law ["script"] []
  B_law : ∀ (s : Shared) (u : Value), BindsTo s a.d_law ⟨[u], []⟩ [("script", u)]
  g_law : mg "law" = some (.ref a.a_law)
  C_Network : Cls K a.c_Network
  g_Network : mg "Network" = some (.ref a.c_Network)
  n_Network_variables : NoAttr K a.c_Network "variables"
  n_Network_nodes : NoAttr K a.c_Network "nodes"
  n_Network_links : NoAttr K a.c_Network "links"
  C_Margins : Cls K a.c_Margins
  g_Margins : mg "Margins" = some (.ref a.c_Margins)
  n_Margins_letters : NoAttr K a.c_Margins "letters"
  n_Margins_spans : NoAttr K a.c_Margins "spans"
  n_Margins_demands : NoAttr K a.c_Margins "demands"
  n_Margins_beyond : NoAttr K a.c_Margins "beyond"
  C_Sending : Cls K a.c_Sending
  g_Sending : mg "Sending" = some (.ref a.c_Sending)
  n_Sending_free : NoAttr K a.c_Sending "free"
  n_Sending_masks : NoAttr K a.c_Sending "masks"
  n_Sending_had : NoAttr K a.c_Sending "had"
  n_Sending_spans : NoAttr K a.c_Sending "spans"
  g_KnowError : mg "KnowError" = some (.ref a.c_KnowError)
  g_BadNetwork : mg "BadNetwork" = some (.ref a.c_BadNetwork)
  X_BadNetwork : ExcA K a.c_BadNetwork
  i_BadNetwork_KnowError : PySem.W.kitOne K (.ref a.c_BadNetwork) (.ref a.c_KnowError) = some true
  i_BadNetwork_ValueError : PySem.W.kitOne K (.ref a.c_BadNetwork) (.type "ValueError") = some true
  O_BadNetwork : OexC K a.c_BadNetwork
  n_BadNetwork_part : PySem.W.findIn K (.ref a.c_BadNetwork) "part" = some none
  n_BadNetwork_number : PySem.W.findIn K (.ref a.c_BadNetwork) "number" = some none
  n_BadNetwork_reason : PySem.W.findIn K (.ref a.c_BadNetwork) "reason" = some none
  g_NoNode : mg "NoNode" = some (.ref a.c_NoNode)
  X_NoNode : ExcA K a.c_NoNode
  i_NoNode_KnowError : PySem.W.kitOne K (.ref a.c_NoNode) (.ref a.c_KnowError) = some true
  N_NoNode : PySem.W.excIn K a.c_NoNode [.type "ValueError", .type "Exception", .type "BaseException", .type "object"] "ValueError.__new__" = true
  g_NoSet : mg "NoSet" = some (.ref a.c_NoSet)
  X_NoSet : ExcA K a.c_NoSet
  i_NoSet_KnowError : PySem.W.kitOne K (.ref a.c_NoSet) (.ref a.c_KnowError) = some true
  i_NoSet_ValueError : PySem.W.kitOne K (.ref a.c_NoSet) (.type "ValueError") = some true
  N_NoSet : PySem.W.excIn K a.c_NoSet [.type "ValueError", .type "Exception", .type "BaseException", .type "object"] "ValueError.__new__" = true
  m_VARIABLE_LETTERS : mg "VARIABLE_LETTERS" = some (.str "abcdefghijklmnopqrstuvwxyz" a.t_VARIABLE_LETTERS)
  m_NODE_LETTERS : mg "NODE_LETTERS" = some (.str "ABCDEFGHIJKLMNOPQRSTUVWXYZ" a.t_NODE_LETTERS)
  m_MOST_VARIABLES : mg "MOST_VARIABLES" = some (.int 6 a.t_MOST_VARIABLES)
  m_MOST_NODES : mg "MOST_NODES" = some (.int 6 a.t_MOST_NODES)
  m_MOST_MESSAGES : mg "MOST_MESSAGES" = some (.int 4 a.t_MOST_MESSAGES)
  m_MOST_LINKS : mg "MOST_LINKS" = some (.int 16 a.t_MOST_LINKS)
  m_PARITY_LETTERS : mg "PARITY_LETTERS" = some (.str "abcdefgh" a.t_PARITY_LETTERS)
  i_combinations : mg "combinations" = some (.type "itertools.combinations")
  z_len : mg "len" = none
  z_int : mg "int" = none
  z_max : mg "max" = none
  z_min : mg "min" = none
  z_sum : mg "sum" = none
  z_sorted : mg "sorted" = none
  z_range : mg "range" = none
  z_tuple : mg "tuple" = none
  z_list : mg "list" = none
  z_isinstance : mg "isinstance" = none
  z_enumerate : mg "enumerate" = none
  z_all : mg "all" = none
  z_bool : mg "bool" = none
  z_str : mg "str" = none
  z_ValueError : mg "ValueError" = none
  z_dict : mg "dict" = none
  z_any : mg "any" = none
end AK
set_option Elab.async false
set_option linter.all false
set_option maxRecDepth 100000
set_option maxHeartbeats 0
namespace AK
open PySem PySem.Spec PyProof.Rows L2
def dd_BadNetwork_init : He.DefD := ⟨("BadNetwork", some "__init__"), "__init__", "BadNetwork.__init__", defArgs s_BadNetwork_init, defBody s_BadNetwork_init, defScope s_BadNetwork_init, [], []⟩
def dd_Network_init : He.DefD := ⟨("Network", some "__init__"), "__init__", "Network.__init__", defArgs s_Network_init, defBody s_Network_init, defScope s_Network_init, [], []⟩
def dd_Network_node_letters : He.DefD := ⟨("Network", some "node_letters"), "node_letters", "Network.node_letters", defArgs s_Network_node_letters, defBody s_Network_node_letters, defScope s_Network_node_letters, [], []⟩
def dd_Network_variable_letters : He.DefD := ⟨("Network", some "variable_letters"), "variable_letters", "Network.variable_letters", defArgs s_Network_variable_letters, defBody s_Network_variable_letters, defScope s_Network_variable_letters, [], []⟩
def dd_Network_messages : He.DefD := ⟨("Network", some "messages"), "messages", "Network.messages", defArgs s_Network_messages, defBody s_Network_messages, defScope s_Network_messages, [], []⟩
def dd_Network_all_messages : He.DefD := ⟨("Network", some "all_messages"), "all_messages", "Network.all_messages", defArgs s_Network_all_messages, defBody s_Network_all_messages, defScope s_Network_all_messages, [], []⟩
def dd_is_message : He.DefD := ⟨("is_message", none), "is_message", "is_message", defArgs s_is_message, defBody s_is_message, defScope s_is_message, [], []⟩
def dd_is_link : He.DefD := ⟨("is_link", none), "is_link", "is_link", defArgs s_is_link, defBody s_is_link, defScope s_is_link, [], []⟩
def dd_node_number : He.DefD := ⟨("node_number", none), "node_number", "node_number", defArgs s_node_number, defBody s_node_number, defScope s_node_number, [], []⟩
def dd_require_set : He.DefD := ⟨("require_set", none), "require_set", "require_set", defArgs s_require_set, defBody s_require_set, defScope s_require_set, [], []⟩
def dd_has_link : He.DefD := ⟨("has_link", none), "has_link", "has_link", defArgs s_has_link, defBody s_has_link, defScope s_has_link, [], []⟩
def dd_require_link : He.DefD := ⟨("require_link", none), "require_link", "require_link", defArgs s_require_link, defBody s_require_link, defScope s_require_link, [], []⟩
def dd_require_message : He.DefD := ⟨("require_message", none), "require_message", "require_message", defArgs s_require_message, defBody s_require_message, defScope s_require_message, [], []⟩
def dd_first_letters : He.DefD := ⟨("first_letters", none), "first_letters", "first_letters", defArgs s_first_letters, defBody s_first_letters, defScope s_first_letters, [], []⟩
def dd_is_ascending : He.DefD := ⟨("is_ascending", none), "is_ascending", "is_ascending", defArgs s_is_ascending, defBody s_is_ascending, defScope s_is_ascending, [], []⟩
def dd_check_variables : He.DefD := ⟨("_check_variables", none), "_check_variables", "_check_variables", defArgs s_check_variables, defBody s_check_variables, defScope s_check_variables, [], []⟩
def dd_check_nodes : He.DefD := ⟨("_check_nodes", none), "_check_nodes", "_check_nodes", defArgs s_check_nodes, defBody s_check_nodes, defScope s_check_nodes, [], []⟩
def dd_check_links : He.DefD := ⟨("_check_links", none), "_check_links", "_check_links", defArgs s_check_links, defBody s_check_links, defScope s_check_links, [], []⟩
def dd_mask_of : He.DefD := ⟨("mask_of", none), "mask_of", "mask_of", defArgs s_mask_of, defBody s_mask_of, defScope s_mask_of, [], []⟩
def dd_remainder : He.DefD := ⟨("remainder", none), "remainder", "remainder", defArgs s_remainder, defBody s_remainder, defScope s_remainder, [], []⟩
def dd_spanned : He.DefD := ⟨("spanned", none), "spanned", "spanned", defArgs s_spanned, defBody s_spanned, defScope s_spanned, [.adr (He.dflAt ("spanned", none) 0)], []⟩
def dd_first_masks : He.DefD := ⟨("first_masks", none), "first_masks", "first_masks", defArgs s_first_masks, defBody s_first_masks, defScope s_first_masks, [], []⟩
def dd_Margins_init : He.DefD := ⟨("Margins", some "__init__"), "__init__", "Margins.__init__", defArgs s_Margins_init, defBody s_Margins_init, defScope s_Margins_init, [], []⟩
def dd_Margins_deficient : He.DefD := ⟨("Margins", some "deficient"), "deficient", "Margins.deficient", defArgs s_Margins_deficient, defBody s_Margins_deficient, defScope s_Margins_deficient, [], []⟩
def dd_Margins_tight : He.DefD := ⟨("Margins", some "tight"), "tight", "Margins.tight", defArgs s_Margins_tight, defBody s_Margins_tight, defScope s_Margins_tight, [], []⟩
def dd_Margins_first_deficient : He.DefD := ⟨("Margins", some "first_deficient"), "first_deficient", "Margins.first_deficient", defArgs s_Margins_first_deficient, defBody s_Margins_first_deficient, defScope s_Margins_first_deficient, [], []⟩
def dd_Margins_is_feasible : He.DefD := ⟨("Margins", some "is_feasible"), "is_feasible", "Margins.is_feasible", defArgs s_Margins_is_feasible, defBody s_Margins_is_feasible, defScope s_Margins_is_feasible, [], []⟩
def dd_Margins_needed : He.DefD := ⟨("Margins", some "needed"), "needed", "Margins.needed", defArgs s_Margins_needed, defBody s_Margins_needed, defScope s_Margins_needed, [], []⟩
def dd_Margins_tolerance : He.DefD := ⟨("Margins", some "tolerance"), "tolerance", "Margins.tolerance", defArgs s_Margins_tolerance, defBody s_Margins_tolerance, defScope s_Margins_tolerance, [], []⟩
def dd_Margins_tolerance_after : He.DefD := ⟨("Margins", some "tolerance_after"), "tolerance_after", "Margins.tolerance_after", defArgs s_Margins_tolerance_after, defBody s_Margins_tolerance_after, defScope s_Margins_tolerance_after, [], []⟩
def dd_first_spans : He.DefD := ⟨("first_spans", none), "first_spans", "first_spans", defArgs s_first_spans, defBody s_first_spans, defScope s_first_spans, [], []⟩
def dd_margins_of : He.DefD := ⟨("margins_of", none), "margins_of", "margins_of", defArgs s_margins_of, defBody s_margins_of, defScope s_margins_of, [], []⟩
def dd_ordered_sets : He.DefD := ⟨("ordered_sets", none), "ordered_sets", "ordered_sets", defArgs s_ordered_sets, defBody s_ordered_sets, defScope s_ordered_sets, [], []⟩
def dd_enters : He.DefD := ⟨("enters", none), "enters", "enters", defArgs s_enters, defBody s_enters, defScope s_enters, [], []⟩
def dd_enters_any : He.DefD := ⟨("enters_any", none), "enters_any", "enters_any", defArgs s_enters_any, defBody s_enters_any, defScope s_enters_any, [], []⟩
def dd_entering : He.DefD := ⟨("entering", none), "entering", "entering", defArgs s_entering, defBody s_entering, defScope s_entering, [], []⟩
def dd_Sending_init : He.DefD := ⟨("Sending", some "__init__"), "__init__", "Sending.__init__", defArgs s_Sending_init, defBody s_Sending_init, defScope s_Sending_init, [], []⟩
def dd_Sending_learn : He.DefD := ⟨("Sending", some "learn"), "learn", "Sending.learn", defArgs s_Sending_learn, defBody s_Sending_learn, defScope s_Sending_learn, [], []⟩
def dd_Sending_hindrance : He.DefD := ⟨("Sending", some "hindrance"), "hindrance", "Sending.hindrance", defArgs s_Sending_hindrance, defBody s_Sending_hindrance, defScope s_Sending_hindrance, [], []⟩
def dd_Sending_send : He.DefD := ⟨("Sending", some "send"), "send", "Sending.send", defArgs s_Sending_send, defBody s_Sending_send, defScope s_Sending_send, [], []⟩
def dd_Sending_margins : He.DefD := ⟨("Sending", some "margins"), "margins", "Sending.margins", defArgs s_Sending_margins, defBody s_Sending_margins, defScope s_Sending_margins, [], []⟩
def dd_Sending_is_informed : He.DefD := ⟨("Sending", some "is_informed"), "is_informed", "Sending.is_informed", defArgs s_Sending_is_informed, defBody s_Sending_is_informed, defScope s_Sending_is_informed, [], []⟩
def dd_Sending_is_over : He.DefD := ⟨("Sending", some "is_over"), "is_over", "Sending.is_over", defArgs s_Sending_is_over, defBody s_Sending_is_over, defScope s_Sending_is_over, [], []⟩
def dd_Sending_possible_ones : He.DefD := ⟨("Sending", some "possible_ones"), "possible_ones", "Sending.possible_ones", defArgs s_Sending_possible_ones, defBody s_Sending_possible_ones, defScope s_Sending_possible_ones, [], []⟩
def dd_Sending_next_ones : He.DefD := ⟨("Sending", some "next_ones"), "next_ones", "Sending.next_ones", defArgs s_Sending_next_ones, defBody s_Sending_next_ones, defScope s_Sending_next_ones, [], []⟩
def dd_Sending_finish : He.DefD := ⟨("Sending", some "finish"), "finish", "Sending.finish", defArgs s_Sending_finish, defBody s_Sending_finish, defScope s_Sending_finish, [], []⟩
def dd_checked_transmissions : He.DefD := ⟨("checked_transmissions", none), "checked_transmissions", "checked_transmissions", defArgs s_checked_transmissions, defBody s_checked_transmissions, defScope s_checked_transmissions, [], []⟩
def dd_sending_after : He.DefD := ⟨("sending_after", none), "sending_after", "sending_after", defArgs s_sending_after, defBody s_sending_after, defScope s_sending_after, [], []⟩
def dd_is_new_to_all : He.DefD := ⟨("is_new_to_all", none), "is_new_to_all", "is_new_to_all", defArgs s_is_new_to_all, defBody s_is_new_to_all, defScope s_is_new_to_all, [], []⟩
def dd_first_set : He.DefD := ⟨("first_set", none), "first_set", "first_set", defArgs s_first_set, defBody s_first_set, defScope s_first_set, [], []⟩
def dd_is_feasible_for : He.DefD := ⟨("is_feasible_for", none), "is_feasible_for", "is_feasible_for", defArgs s_is_feasible_for, defBody s_is_feasible_for, defScope s_is_feasible_for, [], []⟩
def dd_feasible_alone : He.DefD := ⟨("feasible_alone", none), "feasible_alone", "feasible_alone", defArgs s_feasible_alone, defBody s_feasible_alone, defScope s_feasible_alone, [], []⟩
def dd_critical_links : He.DefD := ⟨("critical_links", none), "critical_links", "critical_links", defArgs s_critical_links, defBody s_critical_links, defScope s_critical_links, [], []⟩
def dd_delivery : He.DefD := ⟨("delivery", none), "delivery", "delivery", defArgs s_delivery, defBody s_delivery, defScope s_delivery, [], []⟩
def dd_is_complete_for : He.DefD := ⟨("is_complete_for", none), "is_complete_for", "is_complete_for", defArgs s_is_complete_for, defBody s_is_complete_for, defScope s_is_complete_for, [], []⟩
def dd_with_any : He.DefD := ⟨("_with_any", none), "_with_any", "_with_any", defArgs s_with_any, defBody s_with_any, defScope s_with_any, [], []⟩
def dd_first_with : He.DefD := ⟨("_first_with", none), "_first_with", "_first_with", defArgs s_first_with, defBody s_first_with, defScope s_first_with, [], []⟩
def dd_leading_to : He.DefD := ⟨("_leading_to", none), "_leading_to", "_leading_to", defArgs s_leading_to, defBody s_leading_to, defScope s_leading_to, [], []⟩
def dd_law_pool : He.DefD := ⟨("_law_pool", none), "_law_pool", "_law_pool", defArgs s_law_pool, defBody s_law_pool, defScope s_law_pool, [], []⟩
def dd_law_take : He.DefD := ⟨("_law_take", none), "_law_take", "_law_take", defArgs s_law_take, defBody s_law_take, defScope s_law_take, [], []⟩
def dd_law_is_integer : He.DefD := ⟨("_law_is_integer", none), "_law_is_integer", "_law_is_integer", defArgs s_law_is_integer, defBody s_law_is_integer, defScope s_law_is_integer, [], []⟩
def dd_law_same : He.DefD := ⟨("_law_same", none), "_law_same", "_law_same", defArgs s_law_same, defBody s_law_same, defScope s_law_same, [], []⟩
def dd_law_pick : He.DefD := ⟨("_law_pick", none), "_law_pick", "_law_pick", defArgs s_law_pick, defBody s_law_pick, defScope s_law_pick, [], []⟩
def dd_law_parity : He.DefD := ⟨("_law_parity", none), "_law_parity", "_law_parity", defArgs s_law_parity, defBody s_law_parity, defScope s_law_parity, [], []⟩
def dd_law_message : He.DefD := ⟨("_law_message", none), "_law_message", "_law_message", defArgs s_law_message, defBody s_law_message, defScope s_law_message, [], []⟩
def dd_law_sum : He.DefD := ⟨("_law_sum", none), "_law_sum", "_law_sum", defArgs s_law_sum, defBody s_law_sum, defScope s_law_sum, [], []⟩
def dd_law_derived : He.DefD := ⟨("_law_derived", none), "_law_derived", "_law_derived", defArgs s_law_derived, defBody s_law_derived, defScope s_law_derived, [], []⟩
def dd_law_rank : He.DefD := ⟨("_law_rank", none), "_law_rank", "_law_rank", defArgs s_law_rank, defBody s_law_rank, defScope s_law_rank, [], []⟩
def dd_law_some_messages : He.DefD := ⟨("_law_some_messages", none), "_law_some_messages", "_law_some_messages", defArgs s_law_some_messages, defBody s_law_some_messages, defScope s_law_some_messages, [], []⟩
def dd_law_drawn : He.DefD := ⟨("_law_drawn", none), "_law_drawn", "_law_drawn", defArgs s_law_drawn, defBody s_law_drawn, defScope s_law_drawn, [], []⟩
def dd_law_filled : He.DefD := ⟨("_law_filled", none), "_law_filled", "_law_filled", defArgs s_law_filled, defBody s_law_filled, defScope s_law_filled, [], []⟩
def dd_law_network : He.DefD := ⟨("_law_network", none), "_law_network", "_law_network", defArgs s_law_network, defBody s_law_network, defScope s_law_network, [], []⟩
def dd_law_shaped : He.DefD := ⟨("_law_shaped", none), "_law_shaped", "_law_shaped", defArgs s_law_shaped, defBody s_law_shaped, defScope s_law_shaped, [], []⟩
def dd_law_handed : He.DefD := ⟨("_law_handed", none), "_law_handed", "_law_handed", defArgs s_law_handed, defBody s_law_handed, defScope s_law_handed, [], []⟩
def dd_law_sets : He.DefD := ⟨("_law_sets", none), "_law_sets", "_law_sets", defArgs s_law_sets, defBody s_law_sets, defScope s_law_sets, [], []⟩
def dd_law_messages_of : He.DefD := ⟨("_law_messages_of", none), "_law_messages_of", "_law_messages_of", defArgs s_law_messages_of, defBody s_law_messages_of, defScope s_law_messages_of, [], []⟩
def dd_law_demand : He.DefD := ⟨("_law_demand", none), "_law_demand", "_law_demand", defArgs s_law_demand, defBody s_law_demand, defScope s_law_demand, [], []⟩
def dd_law_entering : He.DefD := ⟨("_law_entering", none), "_law_entering", "_law_entering", defArgs s_law_entering, defBody s_law_entering, defScope s_law_entering, [], []⟩
def dd_law_deficient : He.DefD := ⟨("_law_deficient", none), "_law_deficient", "_law_deficient", defArgs s_law_deficient, defBody s_law_deficient, defScope s_law_deficient, [], []⟩
def dd_law_first_set : He.DefD := ⟨("_law_first_set", none), "_law_first_set", "_law_first_set", defArgs s_law_first_set, defBody s_law_first_set, defScope s_law_first_set, [], []⟩
def dd_law_targets : He.DefD := ⟨("_law_targets", none), "_law_targets", "_law_targets", defArgs s_law_targets, defBody s_law_targets, defScope s_law_targets, [], []⟩
def dd_law_critical : He.DefD := ⟨("_law_critical", none), "_law_critical", "_law_critical", defArgs s_law_critical, defBody s_law_critical, defScope s_law_critical, [], []⟩
def dd_law_refused : He.DefD := ⟨("_law_refused", none), "_law_refused", "_law_refused", defArgs s_law_refused, defBody s_law_refused, defScope s_law_refused, [], []⟩
def dd_law : He.DefD := ⟨("law", none), "law", "law", defArgs s_law, defBody s_law, defScope s_law, [], []⟩
def fnL1 : List He.DefD := [dd_BadNetwork_init,
  dd_Network_init,
  dd_Network_node_letters,
  dd_Network_variable_letters,
  dd_Network_messages,
  dd_Network_all_messages,
  dd_is_message,
  dd_is_link,
  dd_node_number,
  dd_require_set,
  dd_has_link,
  dd_require_link,
  dd_require_message,
  dd_first_letters,
  dd_is_ascending,
  dd_check_variables,
  dd_check_nodes,
  dd_check_links,
  dd_mask_of,
  dd_remainder,
  dd_spanned,
  dd_first_masks,
  dd_Margins_init,
  dd_Margins_deficient,
  dd_Margins_tight,
  dd_Margins_first_deficient,
  dd_Margins_is_feasible,
  dd_Margins_needed,
  dd_Margins_tolerance,
  dd_Margins_tolerance_after,
  dd_first_spans,
  dd_margins_of,
  dd_ordered_sets,
  dd_enters,
  dd_enters_any,
  dd_entering,
  dd_Sending_init,
  dd_Sending_learn,
  dd_Sending_hindrance,
  dd_Sending_send,
  dd_Sending_margins,
  dd_Sending_is_informed]
def fnL2 : List He.DefD := [dd_Sending_is_over,
  dd_Sending_possible_ones,
  dd_Sending_next_ones,
  dd_Sending_finish,
  dd_checked_transmissions,
  dd_sending_after,
  dd_is_new_to_all,
  dd_first_set,
  dd_is_feasible_for,
  dd_feasible_alone,
  dd_critical_links,
  dd_delivery,
  dd_is_complete_for,
  dd_with_any,
  dd_first_with,
  dd_leading_to,
  dd_law_pool,
  dd_law_take,
  dd_law_is_integer,
  dd_law_same,
  dd_law_pick,
  dd_law_parity,
  dd_law_message,
  dd_law_sum,
  dd_law_derived,
  dd_law_rank,
  dd_law_some_messages,
  dd_law_drawn,
  dd_law_filled,
  dd_law_network,
  dd_law_shaped,
  dd_law_handed,
  dd_law_sets,
  dd_law_messages_of,
  dd_law_demand,
  dd_law_entering,
  dd_law_deficient,
  dd_law_first_set,
  dd_law_targets,
  dd_law_critical,
  dd_law_refused,
  dd_law]
def fnL : List He.DefD := (fnL1 ++ fnL2)
def faL1 : List He.Fa := [.mkr "Network",
  .meth "Network" "node_letters",
  .meth "Network" "variable_letters",
  .meth "Network" "messages",
  .meth "Network" "all_messages",
  .glo "is_message",
  .glo "is_link",
  .glo "node_number",
  .glo "require_set",
  .glo "has_link",
  .glo "require_link",
  .glo "require_message",
  .glo "first_letters",
  .glo "is_ascending",
  .glo "_check_variables",
  .glo "_check_nodes",
  .glo "_check_links",
  .glo "mask_of",
  .glo "remainder",
  .glo "spanned",
  .glo "first_masks",
  .mkr "Margins",
  .meth "Margins" "deficient",
  .meth "Margins" "tight",
  .meth "Margins" "first_deficient",
  .meth "Margins" "is_feasible",
  .meth "Margins" "needed",
  .meth "Margins" "tolerance",
  .meth "Margins" "tolerance_after",
  .glo "first_spans",
  .glo "margins_of",
  .glo "ordered_sets",
  .glo "enters",
  .glo "enters_any",
  .glo "entering",
  .mkr "Sending",
  .meth "Sending" "learn",
  .meth "Sending" "hindrance",
  .meth "Sending" "send",
  .meth "Sending" "margins",
  .meth "Sending" "is_informed",
  .meth "Sending" "is_over",
  .meth "Sending" "possible_ones",
  .meth "Sending" "next_ones",
  .meth "Sending" "finish",
  .glo "checked_transmissions",
  .glo "sending_after",
  .glo "is_new_to_all",
  .glo "first_set",
  .glo "is_feasible_for",
  .glo "feasible_alone",
  .glo "critical_links",
  .glo "delivery",
  .glo "is_complete_for",
  .glo "_with_any",
  .glo "_first_with",
  .glo "_leading_to",
  .glo "_law_pool",
  .glo "_law_take",
  .glo "_law_is_integer",
  .glo "_law_same",
  .glo "_law_pick",
  .glo "_law_parity",
  .glo "_law_message",
  .glo "_law_sum"]
def faL2 : List He.Fa := [.glo "_law_derived",
  .glo "_law_rank",
  .glo "_law_some_messages",
  .glo "_law_drawn",
  .glo "_law_filled",
  .glo "_law_network",
  .glo "_law_shaped",
  .glo "_law_handed",
  .glo "_law_sets",
  .glo "_law_messages_of",
  .glo "_law_demand",
  .glo "_law_entering",
  .glo "_law_deficient",
  .glo "_law_first_set",
  .glo "_law_targets",
  .glo "_law_critical",
  .glo "_law_refused",
  .glo "law",
  .cls "Network",
  .glo "Network",
  .noat "Network" "variables",
  .noat "Network" "nodes",
  .noat "Network" "links",
  .cls "Margins",
  .glo "Margins",
  .noat "Margins" "letters",
  .noat "Margins" "spans",
  .noat "Margins" "demands",
  .noat "Margins" "beyond",
  .cls "Sending",
  .glo "Sending",
  .noat "Sending" "free",
  .noat "Sending" "masks",
  .noat "Sending" "had",
  .noat "Sending" "spans",
  .glo "KnowError",
  .glo "BadNetwork",
  .glo "NoNode",
  .exc "NoNode",
  .glo "NoSet",
  .exc "NoSet",
  .str "VARIABLE_LETTERS" "abcdefghijklmnopqrstuvwxyz",
  .str "NODE_LETTERS" "ABCDEFGHIJKLMNOPQRSTUVWXYZ",
  .int "MOST_VARIABLES" 6,
  .int "MOST_NODES" 6,
  .int "MOST_MESSAGES" 4,
  .int "MOST_LINKS" 16,
  .str "PARITY_LETTERS" "abcdefgh",
  .free "len",
  .free "int",
  .free "max",
  .free "min",
  .free "sum",
  .free "sorted",
  .free "range",
  .free "tuple",
  .free "list",
  .free "isinstance",
  .free "enumerate",
  .free "all",
  .free "bool",
  .free "str",
  .free "ValueError",
  .free "dict",
  .free "any"]
def faL : List He.Fa := (faL1 ++ faL2)
def tfL1 : List He.Defn := [("Network", some "__init__")]
def tfL2 : List He.Defn := []
def tfL : List He.Defn := (tfL1 ++ tfL2)
def exL1 (K : PySem.W.Frag) : List Bool := [He.eqO (PySem.W.findIn K (.ref (He.ga K "BadNetwork")) "__init__") (some (some (.ref (He.ma K (He.ga K "BadNetwork") "__init__")))),
  decide (PySem.W.typeIn K (.ref (He.ma K (He.ga K "BadNetwork") "__init__")) = some (.type "function")),
  tup0B K (He.dflAt ("spanned", none) 0 K),
  PySem.W.keepIn K (.ref (He.fAd K ("spanned", none))),
  excB K (He.ga K "BadNetwork"),
  decide (PySem.W.kitOne K (.ref (He.ga K "BadNetwork")) (.ref (He.ga K "KnowError")) = some true),
  decide (PySem.W.kitOne K (.ref (He.ga K "BadNetwork")) (.type "ValueError") = some true),
  oexB K (He.ga K "BadNetwork"),
  He.eqO (PySem.W.findIn K (.ref (He.ga K "BadNetwork")) "part") (some none)]
def exL2 (K : PySem.W.Frag) : List Bool := [He.eqO (PySem.W.findIn K (.ref (He.ga K "BadNetwork")) "number") (some none),
  He.eqO (PySem.W.findIn K (.ref (He.ga K "BadNetwork")) "reason") (some none),
  excB K (He.ga K "NoNode"),
  decide (PySem.W.kitOne K (.ref (He.ga K "NoNode")) (.ref (He.ga K "KnowError")) = some true),
  excB K (He.ga K "NoSet"),
  decide (PySem.W.kitOne K (.ref (He.ga K "NoSet")) (.ref (He.ga K "KnowError")) = some true),
  decide (PySem.W.kitOne K (.ref (He.ga K "NoSet")) (.type "ValueError") = some true),
  He.eqO (PySem.W.nsIn K mainGlobals "combinations") (some (some (.type "itertools.combinations")))]
def exL (K : PySem.W.Frag) : List Bool := (exL1 K ++ exL2 K)
def exB (K : PySem.W.Frag) : Bool := (exL K).all id
abbrev R0 : PySem.W.OpenRow := PySem.W.OpenLaw.row PySem.Challenge.rw_allknow_k36_targets
abbrev hkX : PySem.W.Hook := hookP 1000 faL fnL tfL exB
def obX (s : PySem.W.SharedT) : He.AlX := pieceO 1000 faL fnL tfL exB (HandSHeadRun.getT s)
theorem obX_eq (s : PySem.W.SharedT) : obX s = hkX.obs s.abs := pieceO_eq s
def looseL : List PySem.Str := [PySem.Str.ofString "_wall", PySem.Str.ofString "__name__", PySem.Str.ofString "KnowError", PySem.Str.ofString "VARIABLE_LETTERS", PySem.Str.ofString "NODE_LETTERS", PySem.Str.ofString "MOST_VARIABLES", PySem.Str.ofString "MOST_NODES", PySem.Str.ofString "MOST_MESSAGES", PySem.Str.ofString "MOST_LINKS", PySem.Str.ofString "BadNetwork", PySem.Str.ofString "NoNode", PySem.Str.ofString "NoSet", PySem.Str.ofString "NoLink", PySem.Str.ofString "NoMessage", PySem.Str.ofString "Network", PySem.Str.ofString "is_message", PySem.Str.ofString "is_link", PySem.Str.ofString "node_number", PySem.Str.ofString "require_set", PySem.Str.ofString "has_link", PySem.Str.ofString "require_link", PySem.Str.ofString "require_message", PySem.Str.ofString "first_letters", PySem.Str.ofString "is_ascending", PySem.Str.ofString "_check_variables", PySem.Str.ofString "_check_nodes", PySem.Str.ofString "_check_links", PySem.Str.ofString "PARITY_LETTERS", PySem.Str.ofString "mask_of", PySem.Str.ofString "remainder", PySem.Str.ofString "spanned", PySem.Str.ofString "first_masks", PySem.Str.ofString "Margins", PySem.Str.ofString "first_spans", PySem.Str.ofString "margins_of", PySem.Str.ofString "ordered_sets", PySem.Str.ofString "enters", PySem.Str.ofString "enters_any", PySem.Str.ofString "entering", PySem.Str.ofString "Sending", PySem.Str.ofString "checked_transmissions", PySem.Str.ofString "sending_after", PySem.Str.ofString "is_new_to_all", PySem.Str.ofString "NoTarget", PySem.Str.ofString "first_set", PySem.Str.ofString "is_feasible_for", PySem.Str.ofString "feasible_alone", PySem.Str.ofString "critical_links", PySem.Str.ofString "delivery", PySem.Str.ofString "is_complete_for", PySem.Str.ofString "_with_any", PySem.Str.ofString "_first_with", PySem.Str.ofString "_leading_to", PySem.Str.ofString "_law_pool", PySem.Str.ofString "_law_take", PySem.Str.ofString "_law_is_integer", PySem.Str.ofString "_law_same", PySem.Str.ofString "_law_pick", PySem.Str.ofString "_law_parity", PySem.Str.ofString "_law_message", PySem.Str.ofString "_law_sum", PySem.Str.ofString "_law_derived", PySem.Str.ofString "_law_rank", PySem.Str.ofString "_law_some_messages", PySem.Str.ofString "_law_drawn", PySem.Str.ofString "_law_filled", PySem.Str.ofString "_law_network", PySem.Str.ofString "_law_shaped", PySem.Str.ofString "_law_handed", PySem.Str.ofString "_law_sets", PySem.Str.ofString "_law_messages_of", PySem.Str.ofString "_law_demand", PySem.Str.ofString "_law_entering", PySem.Str.ofString "_law_deficient", PySem.Str.ofString "_law_first_set", PySem.Str.ofString "_law_targets", PySem.Str.ofString "_law_critical", PySem.Str.ofString "_law_refused"]
noncomputable abbrev whX (w : World) := HandSHeadRun.wholeF (fun p => HandSHeadRun.stepQ (HandSHeadRun.denQ HandSHeadRun.tabQ) p w) HandSHeadRun.fenceQ 6000 R0.prog
theorem runL (w : World) : (whX w).map (fun x => HandSHeadRun.looksF R0.prog x.1.heap x.2.abs) = some true := by
  kernel_rfl
theorem runG (w : World) : (whX w).map (fun x => HandSHeadRun.seenQ (PySem.W.view R0.prog [0, 85]) looseL (importedModules R0.prog.main.body) (fun s => PySem.W.xlAt (PySem.W.view R0.prog [0, 85]) [] s && PySem.W.recOk R0.toRowW.records s) x.2.abs) = some (PySem.W.openGood (PySem.W.view R0.prog [0, 85]) looseL) := by
  kernel_rfl
theorem runO1 (w : World) : (whX w).map (fun x => pieceO 1000 faL1 fnL1 tfL1 (fun K => (exL1 K).all id) (HandSHeadRun.getT x.2)) = some (He.valX fnL1 [] w) := by
  kernel_rfl
theorem runO2 (w : World) : (whX w).map (fun x => pieceO 1000 faL2 fnL2 tfL2 (fun K => (exL2 K).all id) (HandSHeadRun.getT x.2)) = some (He.valX fnL2 [] w) := by
  kernel_rfl
theorem runX (w : World) : HandSHeadRun.RunEqI R0 (PySem.W.view R0.prog [0, 85]) hkX obX 6000 looseL w := map_three (runL w) (runG w) (map_join (runO1 w) (runO2 w))
end AK
set_option Elab.async false
set_option linter.all false
set_option maxRecDepth 100000
namespace AK
open PySem PySem.Spec PyProof.Rows L2
/-! ### readings that simp can go through: a list, a tuple by what H itself holds -/
section
variable {X : Cx}
theorem OpR.imp {f : Value → Value → Sem Value} {r r' : R2} (h : OpR X f r) (i : ∀ x y H Q, r' x y H Q → r x y H Q) : OpR X f r' := fun pins s σ H x y v u Q I rx ry q => h pins s σ H x y v u Q I rx ry (i _ _ _ _ q)
theorem IxR.imp {r r' : R2} (h : IxR X r) (i : ∀ x y H Q, r' x y H Q → r x y H Q) : IxR X r' := fun ve se pins s σ H x y v u Q I rx ry q => h ve se pins s σ H x y v u Q I rx ry (i _ _ _ _ q)
theorem CallR.imp {f : Value} {r r' : List V → Hp → VK → Prop} (h : CallR X f r) (i : ∀ xs H Q, r' xs H Q → r xs H Q) : CallR X f r' := fun pins s σ H xs us Q I r q => h pins s σ H xs us Q I r (i _ _ _ q)
def hIx : R2 := fun x y H Q => ∃ p xs i v, x = .ref p ∧ y = .int i ∧ H p = some (.lst xs) ∧ atI xs i = some v ∧ Q v H
def hIxT : R2 := fun x y H Q => ∃ p xs i v, x = .ref p ∧ y = .int i ∧ H p = some (.tup xs) ∧ atI xs i = some v ∧ Q v H
theorem ixH : IxR X hIx := IxR.imp ix_list fun x y H Q ⟨p, xs, i, v, h1, h2, h3, h4, h5⟩ => ⟨p, xs, i, v, h1, h2, SqL.of h3, h4, h5⟩
theorem ixHT : IxR X hIxT := IxR.imp ix_tup fun x y H Q ⟨p, xs, i, v, h1, h2, h3, h4, h5⟩ => ⟨p, xs, i, v, h1, h2, SqT.of h3, h4, h5⟩
def hSet : V → V → V → Hp → (Hp → Prop) → Prop := fun o i v H Q => ∃ p xs k, o = .ref p ∧ i = .int k ∧ H p = some (.lst xs) ∧ 0 ≤ k ∧ k.toNat < xs.length ∧ Q (upd H p (.lst (xs.set k.toNat v)))
theorem setH : PSet X hSet := by
  intro pins s σ H o i v u1 u2 u3 Q I r1 r2 r3 ⟨p, xs, k, h1, h2, h3, h4, h5, h6⟩
  exact set_list pins s σ H o i v u1 u2 u3 Q I r1 r2 r3 ⟨p, xs, k, k.toNat, h1, h2, h3, by unfold ixN; rw [if_pos h4, if_pos (by omega)], h6⟩
def hInt : List V → Hp → VK → Prop := fun xs H Q => ∃ i, xs = [.int i] ∧ Q (.int i) H
theorem callInt : CallR X (.type "int") hInt := CallR.imp call_int1 fun _ _ _ h => .inl h
def hIntB : List V → Hp → VK → Prop := fun xs H Q => ∃ k, xs = [.bl k] ∧ Q (.int (if k then 1 else 0)) H
theorem callIntB : CallR X (.type "int") hIntB := CallR.imp call_int1 fun _ _ _ h => .inr h
def hLen : List V → Hp → VK → Prop := fun xs H Q => ∃ p ys, xs = [.ref p] ∧ H p = some (.lst ys) ∧ Q (.int ys.length) H
def hLenT : List V → Hp → VK → Prop := fun xs H Q => ∃ p ys, xs = [.ref p] ∧ H p = some (.tup ys) ∧ Q (.int ys.length) H
theorem callLen : CallR X (.builtin "len") hLen := CallR.imp call_len_seq fun _ _ _ ⟨p, ys, h1, h2, h3⟩ => ⟨p, ys, h1, .inl (SqL.of h2), h3⟩
theorem callLenT : CallR X (.builtin "len") hLenT := CallR.imp call_len_seq fun _ _ _ ⟨p, ys, h1, h2, h3⟩ => ⟨p, ys, h1, .inr (SqT.of h2), h3⟩
theorem powH : OpR X (binaryOp .Pow) (rI (fun i j => 0 ≤ j ∧ j ≤ 1000000 ∧ -18446744073709551616 < i ∧ i < 18446744073709551616) fun i j => .int (i ^ j.toNat)) := OpR.imp op_pow fun x y H Q ⟨i, j, h1, h2, h3, h4⟩ => ⟨i, j, h1, h2, ⟨h3.1, h3.2.1, by have := h3.2.2; show i.natAbs < 18446744073709551616; omega⟩, h4⟩
end
/-! ### small facts -/
theorem atI_0 {α : Type} {a : α} {l : List α} : atI (a :: l) 0 = some a := atI_nat (j := 0) rfl
theorem atI_1 {α : Type} {a b : α} {l : List α} : atI (a :: b :: l) 1 = some b := atI_nat (j := 1) rfl
theorem atI_2 {α : Type} {a b c : α} {l : List α} : atI (a :: b :: c :: l) 2 = some c := atI_nat (j := 2) rfl
theorem atI_3 {α : Type} {a b c d : α} {l : List α} : atI (a :: b :: c :: d :: l) 3 = some d := atI_nat (j := 3) rfl
theorem set_1 {α : Type} {a b v : α} {l : List α} : (a :: b :: l).set 1 v = a :: v :: l := rfl
theorem set_2 {α : Type} {a b c v : α} {l : List α} : (a :: b :: c :: l).set 2 v = a :: b :: v :: l := rfl
theorem set_3 {α : Type} {a b c d v : α} {l : List α} : (a :: b :: c :: d :: l).set 3 v = a :: b :: c :: v :: l := rfl
theorem take_s {α : Type} {l : List α} {i : Nat} {x : α} (h : l[i]? = some x) : l.take (i + 1) = l.take i ++ [x] := by
  rw [List.take_add_one, h]
  rfl
theorem map_at {α β : Type} {f : α → β} {l : List α} {i : Nat} {y : β} (h : (l.map f)[i]? = some y) : ∃ x, l[i]? = some x ∧ y = f x := by
  rw [List.getElem?_map] at h
  cases e : l[i]? with
  | none => rw [e] at h; cases h
  | some x => rw [e] at h; exact ⟨x, rfl, (Option.some.inj h).symm⟩
theorem same_new {H : Hp} {p : Addr} {o : HO} (h : H p = none) : Same H (upd H p o) := fun b x e => by
  rw [upd_ne (ne_of_none e h)]
  exact e
theorem same_out {G H : Hp} {p : Addr} {o : HO} (h : Same G H) (n : G p = none) : Same G (upd H p o) := fun b x e => by
  rw [upd_ne (ne_of_none e n)]
  exact h b x e
/-- all but what stands at p is as it was -/
def But (p : Addr) (H H' : Hp) : Prop := ∀ b, b ≠ p → H' b = H b
theorem But.refl (p : Addr) (H : Hp) : But p H H := fun _ _ => rfl
theorem But.trans {p : Addr} {H H1 H2 : Hp} (a : But p H H1) (b : But p H1 H2) : But p H H2 := fun c h => (b c h).trans (a c h)
theorem But.upd {p : Addr} {H : Hp} {o : HO} : But p H (upd H p o) := fun _ h => upd_ne h
theorem But.same {p : Addr} {G H H' : Hp} (b : But p H H') (h : Same G H) (n : G p = none) : Same G H' := fun c x e => by
  rw [b c (ne_of_none e n)]
  exact h c x e
end AK
set_option Elab.async false
set_option linter.all false
set_option maxRecDepth 100000
set_option maxHeartbeats 4000000
namespace AK
open PySem PySem.Spec PyProof.Rows L2 GenW
/-! ### tuple(tuple(x) for x in rows): the generator handed to tuple, turn by turn -/
/-- what is fixed while the generator lives: base: what never changes; I its iterator, C its frame, S the list that is filled, a itself -/
structure TgC where
  P : Program
  w : World
  fs : List Addr
  base : Heap
  H0 : Hp
  sc : Shared
  I : Addr
  C : Addr
  S : Addr
  a : Addr
  g : Nat
  hI : base.objs.size ≤ I
  hC : sc.heap.objs.size ≤ C
  hS : sc.heap.objs.size ≤ S
  ha : sc.heap.objs.size ≤ a
  hb : base.objs.size ≤ sc.heap.objs.size
  hIs : I < sc.heap.objs.size
  hCS : C ≠ S
  hCa : C ≠ a
  hSa : S ≠ a
  hst : cStatics < base.objs.size
/-- .. as it stands behind i turns: bs are the tuples handed out -/
structure TgM (T : TgC) (bs : List Addr) (H : Hp) (s : Shared) : Prop where
  os : s.os = T.sc.os
  bare : AllBare s.gens
  lim : s.heap.NoLimit
  gen : s.heap.IsGen T.a T.g
  un : Un T.fs [T.I] T.H0 H T.sc.heap s.heap
  ok : HOk T.P T.w H s.heap
  fr : ∃ m, s.heap.Ns T.C m
  ls : ∃ (acc : Array Value) (c : Nat), s.heap.get? T.S = some (lstObj acc c) ∧ Vals (bs.map V.ref) acc.toList
  nI : H T.I = none
  nC : H T.C = none
  nS : H T.S = none
  na : H T.a = none
  le : Same T.H0 H
  bk : ∀ b o, T.base.get? b = some o → s.heap.get? b = some o
theorem hok_of {P : Program} {w : World} {H : Hp} {h h' : Heap} (x : HOk P w H h) (k : ∀ b u, H b ≠ none → h.get? b = some u → h'.get? b = some u) : HOk P w H h' := by
  intro b o e
  refine (x b o e).stay (fun c u hc q => k c u ?_ q) (fun _ q => q) (fun _ _ q => q)
  rcases hc with z | z
  · rw [z, e]; exact fun z => nomatch z
  · rw [z]; exact fun z => nomatch z
theorem lim_of {h h' : Heap} (l : h.NoLimit) (k : ∀ o, h.get? cStatics = some o → h'.get? cStatics = some o) : h'.NoLimit := by
  obtain ⟨mc, n1, n2⟩ := l
  exact ⟨mc, n1.at' k, n2⟩
/-- all but the iterator and the frame is kept (new things may have been laid) -/
theorem TgM.move {T : TgC} {bs : List Addr} {H : Hp} {s : Shared} (M : TgM T bs H s) {h' : Heap} {tk : Nat} (k : ∀ b o, b ≠ T.I → b ≠ T.C → s.heap.get? b = some o → h'.get? b = some o) (f : ∃ m, h'.Ns T.C m) : TgM T bs H { s with heap := h', toks := tk } := by
  have neO : ∀ {b o}, T.sc.heap.get? b = some o → b ≠ T.C := fun {b o} e => Nat.ne_of_lt (Nat.lt_of_lt_of_le (Heap.lt_size e) T.hC)
  have hsI : T.S ≠ T.I := fun z => by have h1 := T.hS; have h2 := T.hIs; rw [z] at h1; exact absurd (Nat.lt_of_lt_of_le h2 h1) (Nat.lt_irrefl _)
  have haI : T.a ≠ T.I := fun z => by have h1 := T.ha; have h2 := T.hIs; rw [z] at h1; exact absurd (Nat.lt_of_lt_of_le h2 h1) (Nat.lt_irrefl _)
  have big : ∀ {b o}, T.base.get? b = some o → b ≠ T.I ∧ b ≠ T.C := fun {b o} e => by
    have h1 := Heap.lt_size e
    exact ⟨Nat.ne_of_lt (Nat.lt_of_lt_of_le h1 T.hI), Nat.ne_of_lt (Nat.lt_of_lt_of_le h1 (Nat.le_trans T.hb T.hC))⟩
  obtain ⟨acc, c, e1, e2⟩ := M.ls
  obtain ⟨og, g1, g2, g3, g4⟩ := M.gen
  have u := M.un
  refine ⟨M.os, M.bare, ?_, ⟨og, g1, g2, k _ _ haI (Ne.symm T.hCa) g3, g4⟩, ⟨?_, ?_, u.free, ?_, u.tups, u.frzs, u.tbls⟩, ?_, f, ⟨acc, c, k _ _ hsI (Ne.symm T.hCS) e1, e2⟩, M.nI, M.nC, M.nS, M.na, M.le, fun b o e => k b o (big e).1 (big e).2 (M.bk b o e)⟩
  · refine lim_of M.lim fun o e => k _ o ?_ ?_ e
    · exact Nat.ne_of_lt (Nat.lt_of_lt_of_le T.hst T.hI)
    · exact Nat.ne_of_lt (Nat.lt_of_lt_of_le T.hst (Nat.le_trans T.hb T.hC))
  · intro b o q n x1 x2
    exact k b o (fun z => x2 (by rw [z]; exact List.mem_singleton.mpr rfl)) (neO q) (u.keep b o q n x1 x2)
  · intro b o q n x1 x2
    obtain ⟨sl, e⟩ := u.slot b o q n x1 x2
    exact ⟨sl, k b _ (fun z => x2 (by rw [z]; exact List.mem_singleton.mpr rfl)) (neO q) e⟩
  · intro b o q x2
    obtain ⟨o', e⟩ := u.there b o q x2
    exact ⟨o', k b _ (fun z => x2 (by rw [z]; exact List.mem_singleton.mpr rfl)) (neO q) e⟩
  · refine hok_of M.ok fun b v hb e => k b v (fun z => hb (by rw [z]; exact M.nI)) (fun z => hb (by rw [z]; exact M.nC)) e
/-- a new tuple is laid -/
theorem TgM.laid {T : TgC} {bs : List Addr} {H : Hp} {s : Shared} (M : TgM T bs H s) {row : List V} {its : List Value} (r : Vals row its) (hz : row.length ≤ sizeLine) :
    H s.heap.objs.size = none ∧ TgM T bs (upd H s.heap.objs.size (.tup row)) { s with heap := s.heap.push { cls := .type "tuple", data := .seq its.toArray } } := by
  have hn : H s.heap.objs.size = none := M.ok.fresh (Nat.le_refl _)
  have kp : ∀ b o, s.heap.get? b = some o → (s.heap.push { cls := .type "tuple", data := .seq its.toArray }).get? b = some o := fun b o e => Heap.get?_push_of_some _ e
  have M1 := M.move (tk := s.toks) (h' := s.heap.push { cls := .type "tuple", data := .seq its.toArray }) (fun b o _ _ e => kp b o e) (by obtain ⟨m, hm⟩ := M.fr; exact ⟨m, hm.keeps kp⟩)
  obtain ⟨acc, c, e1, e2⟩ := M.ls
  obtain ⟨m, om, es, ep, em, _⟩ := M.fr
  obtain ⟨og, _, _, g3, _⟩ := M.gen
  have sc_lt : T.sc.heap.objs.size ≤ s.heap.objs.size := Nat.le_of_lt (Nat.lt_of_le_of_lt T.hS (Heap.lt_size e1))
  have ne : ∀ {b o}, s.heap.get? b = some o → b ≠ s.heap.objs.size := fun {b o} e => Nat.ne_of_lt (Heap.lt_size e)
  have u := M1.un
  refine ⟨hn, M1.os, M1.bare, M1.lim, M1.gen, ⟨u.keep, u.slot, ?_, u.there, ?_, ?_, ?_⟩, M.ok.laid kp (Nat.le_refl _) ⟨hz, its, r, IsTup.new _ _⟩, M1.fr, M1.ls, ?_, ?_, ?_, ?_, ?_, M1.bk⟩
  · intro b o q n x2
    rw [upd_ne (Nat.ne_of_lt (Nat.lt_of_lt_of_le (Heap.lt_size q) sc_lt))]
    exact u.free b o q n x2
  · intro b xs q
    have := u.tups b xs q
    rw [upd_ne (ne_of_none this hn)]; exact this
  · intro b o xs q
    have := u.frzs b o xs q
    rw [upd_ne (ne_of_none this hn)]; exact this
  · intro b ps q
    obtain ⟨more, z⟩ := u.tbls b ps q
    exact ⟨more, by rw [upd_ne (ne_of_none z hn)]; exact z⟩
  · rw [upd_ne (Nat.ne_of_lt (Nat.lt_of_lt_of_le T.hIs sc_lt))]; exact M.nI
  · rw [upd_ne (ne em)]; exact M.nC
  · rw [upd_ne (ne e1)]; exact M.nS
  · rw [upd_ne (ne g3)]; exact M.na
  · intro b o e
    rw [upd_ne (ne_of_none (M.le b o e) hn)]
    exact M.le b o e
/-- the list took what was handed out -/
theorem TgM.woken {T : TgC} {bs : List Addr} {H : Hp} {s s' : Shared} {q : Addr} (M : TgM T bs H s) (z : Slept T.S (.ref q) s s') : TgM T (bs ++ [q]) H s' := by
  obtain ⟨z1, z2, z3, z4⟩ := z
  obtain ⟨acc, c, e1, e2⟩ := M.ls
  obtain ⟨c', e3⟩ := z4 acc c e1
  obtain ⟨og, g1, g2, g3, g4⟩ := M.gen
  have u := M.un
  have neS : ∀ {b o}, T.sc.heap.get? b = some o → b ≠ T.S := fun {b o} e => Nat.ne_of_lt (Nat.lt_of_lt_of_le (Heap.lt_size e) T.hS)
  refine ⟨z1.trans M.os, z2, ?_, ⟨og, g1, g2, z3 _ _ (Ne.symm T.hSa) g3, g4⟩, ⟨?_, ?_, u.free, ?_, u.tups, u.frzs, u.tbls⟩, ?_, ?_, ⟨acc.push (.ref q), c', e3, ?_⟩, M.nI, M.nC, M.nS, M.na, M.le, ?_⟩
  · exact lim_of M.lim fun o e => z3 _ o (Nat.ne_of_lt (Nat.lt_of_lt_of_le T.hst (Nat.le_trans T.hb T.hS))) e
  · exact fun b o q n x1 x2 => z3 b o (neS q) (u.keep b o q n x1 x2)
  · intro b o q n x1 x2
    obtain ⟨sl, e⟩ := u.slot b o q n x1 x2
    exact ⟨sl, z3 b _ (neS q) e⟩
  · intro b o q x2
    obtain ⟨o', e⟩ := u.there b o q x2
    exact ⟨o', z3 b _ (neS q) e⟩
  · exact hok_of M.ok fun b v hb e => z3 b v (fun y => hb (by rw [y]; exact M.nS)) e
  · obtain ⟨m, hm⟩ := M.fr
    exact ⟨m, hm.at' fun o e => z3 _ o T.hCS e⟩
  · rw [Array.toList_push, List.map_append]
    exact e2.append (.cons rfl .nil)
  · intro b o e
    exact z3 b o (Nat.ne_of_lt (Nat.lt_of_lt_of_le (Heap.lt_size e) (Nat.le_trans T.hb T.hS))) (M.bk b o e)
end AK
set_option Elab.async false
set_option linter.all false
set_option maxRecDepth 100000
set_option maxHeartbeats 4000000
namespace AK
open PySem PySem.Spec PyProof.Rows L2 GenW
/-- what the element asks of the base: where the builtins stand -/
structure TgB (T : TgC) (mg : Str → Option Value) : Prop where
  glob : T.base.Ns mainGlobals mg
  blt : ∃ mb, T.base.Ns builtinsNs mb ∧ ∀ x : Str, x ≠ "__name__" → mb x = bootBuiltins x
  tup : mg "tuple" = none
theorem tg_elt {T : TgC} {mg : Str → Option Value} (B : TgB T mg) {bs : List Addr} {H : Hp} {s : Shared} (M : TgM T bs H s) {A : Around} {E : Value → Shared → Prop} {cenv : Env} {x : Str} {p1 p2 p3 : Pos} {m : Str → Option Value} {r : Addr} {row : List V}
    (hk : cenv.scope.kind = .function) (hgl : cenv.globals = mainGlobals) (hbl : cenv.builtins = builtinsNs) (hL : cenv.locals = T.C) (hx : cenv.kindOf x = some .local) (ht : cenv.kindOf "tuple" = some .globalImplicit) (hd : (x == ("__debug__" : Str)) = false)
    (hn : s.heap.Ns cenv.locals m) (hm : m x = some (.ref r)) (hr : H r = some (.lst row) ∨ H r = some (.tup row)) :
    wpAny (model T.P T.w) A (eval (.Call (.Name "tuple" p1) [.Name x p2] [] p3) cenv) (fun y s' => ∃ q H', y = .ref q ∧ TgM T bs H' s' ∧ H' q = some (.tup row) ∧ Same H H' ∧ (∀ b o, s.heap.get? b = some o → s'.heap.get? b = some o) ∧ ∃ h' tk, s' = { s with heap := h', toks := tk }) E s := by
  obtain ⟨mb, b1, b2⟩ := B.blt
  refine wpAny_Call_Name_kw ?_
  refine Calls.Name_function_global hk ht (Calls.loadGlobal_builtin (v := .type "tuple") (by rw [hgl]; exact B.glob.keeps M.bk) B.tup (by rw [hbl]; exact b1.keeps M.bk) ((b2 "tuple" (by decide)).trans (by decide +kernel)) ?_) (by decide)
  refine PyProof.Rows.callWith_type1 ?_ (by rfl) (by rfl)
  show wpAny _ _ (spliced ((false, eval (.Name x p2) cenv) :: backTo p3 (starEach [] cenv))) _ _ s
  refine Calls.spliced_cons (wpAny_Name (wpAny_loadName_local hk hx hn hm ?_) hd)
  refine Calls.spliced_nil ?_
  rcases hr with hr | hr
  · obtain ⟨hz, its, n, rv, e⟩ := M.ok r _ hr
    have il : s.heap.IsList r its.toArray := ⟨_, e, rfl, n, rfl⟩
    refine call_tuple_list il (fun h' kp => ?_) (by rw [List.size_toArray, ← rv.length]; exact hz)
    have M1 : TgM T bs H { s with heap := h' } := M.move (tk := s.toks) (fun b o _ _ q => kp b o q) (by obtain ⟨m0, hm0⟩ := M.fr; exact ⟨m0, hm0.keeps kp⟩)
    obtain ⟨nn, M2⟩ := M1.laid rv hz
    exact ⟨_, _, rfl, M2, upd_same, same_new nn, fun b o q => Heap.get?_push_of_some _ (kp b o q), _, s.toks, rfl⟩
  · obtain ⟨hz, its, rv, tp⟩ := M.ok r _ hr
    exact call_tuple_same tp ⟨r, H, rfl, M, hr, fun _ _ q => q, fun _ _ q => q, s.heap, s.toks, rfl⟩
/-- behind the last turn -/
def TgQ (T : TgC) (rows : List (List V)) (ys : List V) (H' : Hp) : Prop := ∃ bs : List Addr, ys = bs.map V.ref ∧ bs.length = rows.length ∧ (∀ (j : Nat) (b : Addr) (row : List V), bs[j]? = some b → rows[j]? = some row → H' b = some (.tup row)) ∧ Same T.H0 H' ∧ H' T.a = none
def tgR (T : TgC) (rows : List (List V)) : GenEnd := fun n s₀ r s1 => r = .ok .next ∧ ∃ bs H', TgM T bs H' s1 ∧ TgQ T rows (bs.map V.ref) H'
def tgY (T : TgC) : Protocol := fun n s₀ v s1 kap => (∃ bs H', n + 1 + bs.length = sizeLine ∧ TgM T bs H' s1) ∧ ∀ s', Slept T.S v s1 s' → kap (.send .none) s'
theorem tg_loop {T : TgC} {mg : Str → Option Value} (B : TgB T mg) {A : Around} {cenv : Env} {x : Str} {px p1 p2 p3 pos : Pos} {iter : Expr} {scope : Scope} {l : Addr} {as : List Addr} {rows : List (List V)} {St₀ : Nat → Heap → Prop} {its : Array Value}
    (hh : A.handled = none) (W : ∀ A' : Around, A'.handled = none → Walks T.P T.w A' T.I [T.I, l] [T.I] its.size (fun i v => its[i]? = some v) St₀)
    (hsz : its.size = rows.length) (hle : rows.length ≤ sizeLine) (hat : ∀ (i : Nat) (v : Value), its[i]? = some v → ∃ (r : Addr) (row : List V), v = .ref r ∧ rows[i]? = some row ∧ (T.H0 r = some (.lst row) ∨ T.H0 r = some (.tup row))) (hl : ∃ o, T.H0 l = some o)
    (hk : cenv.scope.kind = .function) (hgl : cenv.globals = mainGlobals) (hbl : cenv.builtins = builtinsNs) (hL : cenv.locals = T.C) (hx : cenv.kindOf x = some .local) (ht : cenv.kindOf "tuple" = some .globalImplicit) (hd : (x == ("__debug__" : Str)) = false) (hco : cenv.scope.isCoroutine = false) :
    ∀ (k i : Nat) (s₀ s : Shared) (bs : List Addr) (H' : Hp), its.size - i = k → i ≤ its.size → bs.length = i → TgM T bs H' s → St₀ i s.heap → (∀ (j : Nat) (b : Addr) (row : List V), bs[j]? = some b → rows[j]? = some row → H' b = some (.tup row)) →
      Seg (model T.P T.w) A (tgR T rows) (tgY T) (sizeLine - i) s₀ (.compLoop (.GeneratorExp (.Call (.Name "tuple" p1) [.Name x p2] [] p3) [⟨.Name x px, iter, [], 0⟩] scope pos) 0 (.ref T.I) .none cenv)
        ((model T.P T.w).den (.compLoop (.GeneratorExp (.Call (.Name "tuple" p1) [.Name x p2] [] p3) [⟨.Name x px, iter, [], 0⟩] scope pos) 0 (.ref T.I) .none cenv)) [] s := by
  have hh' : (A.over (.compLoop (.GeneratorExp (.Call (.Name "tuple" p1) [.Name x p2] [] p3) [⟨.Name x px, iter, [], 0⟩] scope pos) 0 (.ref T.I) .none cenv) []).handled = none := hh
  have hp : (cenv.scope.kind == .class || (cenv.scope.kind == .module && cenv.locals != cenv.globals)) = false := by rw [hk]; rfl
  have hCI : T.C ≠ T.I := fun z => by have h1 := T.hC; have h2 := T.hIs; rw [z] at h1; exact absurd (Nat.lt_of_lt_of_le h2 h1) (Nat.lt_irrefl _)
  have hlC : ∀ {bs H s}, TgM T bs H s → l ≠ T.C := fun {bs H s} M z => by
    obtain ⟨o, e⟩ := hl
    have := M.le l o e
    rw [z, M.nC] at this
    cases this
  have inI : ∀ {b}, b ≠ T.I → b ∉ [T.I] := fun {b} h z => h (List.mem_singleton.mp z)
  intro k
  induction k with
  | zero =>
    intro i s₀ s bs H' hki hi hlen M hst hrow
    obtain rfl : i = its.size := by omega
    show Seg _ A _ _ _ s₀ _ ((compTurn (.GeneratorExp (.Call (.Name "tuple" p1) [.Name x p2] [] p3) [⟨.Name x px, iter, [], 0⟩] scope pos) 0 (.ref T.I) .none cenv).onRaise (leaving cenv)) [] s
    rw [compTurn_gen, Sem.onRaise_eq_wrap]
    refine seg_bind_wrap (wpAny_standAt (seg_bind_wrap ((W _ hh').done s _ _ hst fun h1 tk1 kp => ?_)))
    have M1 := M.move (tk := tk1) (fun b o e1 _ e => kp b o (inI e1) e) (by obtain ⟨m, hm⟩ := M.fr; exact ⟨m, hm.at' fun o e => kp _ o (inI hCI) e⟩)
    exact seg_end (.ok .next) ⟨rfl, bs, H', M1, bs, rfl, hlen.trans hsz, hrow, M.le, M.na⟩
  | succ k ih =>
    intro i s₀ s bs H' hki hi hlen M hst hrow
    have hlt : i < its.size := by omega
    show Seg _ A _ _ _ s₀ _ ((compTurn (.GeneratorExp (.Call (.Name "tuple" p1) [.Name x p2] [] p3) [⟨.Name x px, iter, [], 0⟩] scope pos) 0 (.ref T.I) .none cenv).onRaise (leaving cenv)) [] s
    rw [compTurn_gen, Sem.onRaise_eq_wrap]
    refine seg_bind_wrap (wpAny_standAt (seg_bind_wrap ((W _ hh').item i s _ _ hlt hst fun v h1 tk1 hv st1 kp => ?_)))
    obtain ⟨r, row, rfl, hrw, hH0⟩ := hat i v hv
    obtain ⟨m, hm⟩ := M.fr
    have n1 : h1.Ns T.C m := hm.at' fun o e => kp _ o (inI hCI) e
    have M1 := M.move (tk := tk1) (fun b o e1 _ e => kp b o (inI e1) e) ⟨m, n1⟩
    refine seg_bind_wrap (wpAny_of_eq (rfl : letOwnedTupleGo (.Name x px) (.ref T.I) (.ref r) = pure ()) ?_)
    refine seg_bind_wrap (wpAny_assign_Name (wpAny_storeName_local hx (by rw [hL]; exact n1) (fun h2 n2 sb => ?_) hp))
    rw [hL] at n2 sb
    have M2 := M1.move (tk := tk1 + 1) (h' := h2) (fun b o _ e2 e => sb.extBut b o e2 e) ⟨_, n2⟩
    have st2 : St₀ (i + 1) h2 := (W A hh).frame _ _ _ st1 fun b hb o e => sb.extBut b o (by
      rcases List.mem_cons.mp hb with z | z
      · rw [z]; exact Ne.symm hCI
      · rw [List.mem_singleton.mp z]; exact hlC M) e
    simp only [List.forIn_nil]
    refine seg_bind_wrap (wpAny_pure ?_)
    simp only [if_true]
    have hy : ∀ v, yieldOut cenv v = yieldValue v := fun v => by simp only [yieldOut, hco, Bool.false_eq_true, if_false]
    simp only [hy]
    rw [Sem.bind_eq_wrap', Sem.bind_eq_wrap', Sem.wrap_wrap, Sem.wrap_wrap]
    refine seg_wrap (wpAny_mono (tg_elt B M2 (x := x) (r := r) (row := row) hk hgl hbl hL hx ht hd (by rw [hL]; exact n2) (by simp) (hH0.imp (M.le r _) (M.le r _))) (fun y s3 h3 => ?_) fun _ _ z => z)
    obtain ⟨q, H3, rfl, M3, hq, le3, kp3, h4, tk4, rfl⟩ := h3
    have hne : sizeLine - i = (sizeLine - (i + 1)) + 1 := by omega
    rw [hne]
    refine seg_at (seg_yield rfl rfl rfl ⟨⟨bs, H3, by omega, M3⟩, fun s5 sl => ?_⟩)
    have M5 := M3.woken sl
    refine seg_again rfl (ih (i + 1) s5 s5 (bs ++ [q]) H3 (by omega) hlt (by rw [List.length_append, hlen]; rfl) M5 ?_ ?_)
    · obtain ⟨_, _, z3, _⟩ := sl
      refine (W A hh).frame _ _ _ st2 fun b hb o e => z3 b o ?_ (kp3 b o e)
      rcases List.mem_cons.mp hb with z | z
      · rw [z]; exact fun y => by have h1 := T.hS; have h2 := T.hIs; rw [← y] at h1; exact absurd (Nat.lt_of_lt_of_le h2 h1) (Nat.lt_irrefl _)
      · rw [List.mem_singleton.mp z]
        obtain ⟨o, e⟩ := hl
        exact fun y => by have := M.le l o e; rw [y, M.nS] at this; cases this
    · intro j b row' hj hr'
      by_cases hji : j < bs.length
      · rw [List.getElem?_append_left hji] at hj
        exact le3 _ _ (hrow j b row' hj hr')
      · rw [List.getElem?_append_right (by omega)] at hj
        have hj0 : j - bs.length = 0 := by
          cases e : j - bs.length with
          | zero => rfl
          | succ n => rw [e] at hj; cases hj
        rw [hj0] at hj
        obtain rfl : q = b := Option.some.inj hj
        obtain rfl : j = i := by omega
        rw [hrw] at hr'
        obtain rfl := Option.some.inj hr'
        exact hq
end AK
set_option Elab.async false
set_option linter.all false
set_option maxRecDepth 100000
set_option maxHeartbeats 4000000
namespace AK
open PySem PySem.Spec PyProof.Rows L2 GenW
theorem TgM.gens {T : TgC} {bs : List Addr} {H : Hp} {s : Shared} (M : TgM T bs H s) {G : Array GenState} (hG : AllBare G) : TgM T bs H { s with gens := G } :=
  ⟨M.os, hG, M.lim, M.gen, M.un, M.ok, M.fr, M.ls, M.nI, M.nC, M.nS, M.na, M.le, M.bk⟩
theorem TgM.kept {T : TgC} {bs : List Addr} {H : Hp} {s : Shared} (M : TgM T bs H s) {h' : Heap} {tk : Nat} (k : ∀ b o, s.heap.get? b = some o → h'.get? b = some o) : TgM T bs H { s with heap := h', toks := tk } :=
  M.move (fun b o _ _ e => k b o e) (by obtain ⟨m, hm⟩ := M.fr; exact ⟨m, hm.keeps k⟩)
theorem TgM.len {T : TgC} {bs : List Addr} {H : Hp} {s : Shared} {acc : Array Value} (r : Vals (bs.map V.ref) acc.toList) : acc.size = bs.length := by
  have h := r.length
  rw [List.length_map] at h
  rw [← Array.length_toList]
  exact h.symm
theorem tg_drain {T : TgC} {rows : List (List V)} {A : Around} {Rr : Result → Shared → Prop} {res : Value} (hh : A.handled = none) (hd : A.depth < recursionLimit)
    (hend : ∀ s' bs H', TgM T bs H' s' → TgQ T rows (bs.map V.ref) H' → Rr (.ok (.ret res)) s') :
    ∀ (m : Nat) (s : Shared), s.heap.IsGen T.a T.g → s.heap.NoLimit → (∃ gs, s.gens[T.g]? = some gs ∧ gs.Goes (model T.P T.w) A.in1.in1 (tgR T rows) (tgY T) m (.send .none) (s.setGen T.g .running)) →
      codeAny (model T.P T.w) A (.builtin "list.extend.loop" ⟨[.ref T.S, .ref T.a, res], []⟩) Rr s := by
  intro m
  induction m with
  | zero =>
    intro s hg hl ⟨gs, hgs, hgo⟩
    refine codeAny_builtin F.entry_extend_loop ?_
    rw [Around.under_plainId F.plain_extend_loop _]
    show wpAny _ A.in1 (pyNext (.ref T.a) >>= _) _ _ s
    refine wpAny_bind (wpAny_pyNext_genexpQ (A := A.in1) (P := fun _ _ s1 => ∃ bs H', TgM T bs H' s1 ∧ TgQ T rows (bs.map V.ref) H') hh hl hd hg hgs hgo (fun v s1 gs' hb hv => ?_) (fun s1 hp h' hk => ?_))
    · obtain ⟨⟨bs, H', _, M⟩, go⟩ := hv
      obtain ⟨acc, c, e1, _⟩ := M.ls
      exact (go _ (Slept.push e1 M.bare)).elim
    · obtain ⟨bs, H', M, q⟩ := hp
      exact wpAny_pure (hend _ bs H' ((M.kept hk (tk := s1.toks)).gens (allBare_setGen M.bare rfl)) q)
  | succ m ih =>
    intro s hg hl ⟨gs, hgs, hgo⟩
    have hgl : T.g < s.gens.size := (Array.getElem?_eq_some_iff.mp hgs).1
    refine codeAny_builtin F.entry_extend_loop ?_
    rw [Around.under_plainId F.plain_extend_loop _]
    show wpAny _ A.in1 (pyNext (.ref T.a) >>= _) _ _ s
    refine wpAny_bind (wpAny_gsz (n := T.g + 1) hgl (wpAny_pyNext_genexpQ (A := A.in1) (P := fun _ _ s1 => ∃ bs H', TgM T bs H' s1 ∧ TgQ T rows (bs.map V.ref) H') hh hl hd hg hgs hgo (fun v s1 gs' hb hv => ?_) (fun s1 hp h' hk => ?_)))
    · intro hsz
      obtain ⟨⟨bs, H', hn, M⟩, go⟩ := hv
      obtain ⟨acc, c, e1, e2⟩ := M.ls
      have hacc : acc.size = bs.length := TgM.len (T := T) (H := H') (s := s1) e2
      have hs1 : T.g < s1.gens.size := by
        have q : (s1.setGen T.g gs').gens.size = s1.gens.size := setGen_size _ _ _
        have hsz' : T.g + 1 ≤ (s1.setGen T.g gs').gens.size := hsz
        omega
      show wpAny _ A.in1 (updateSeq T.S (·.push v) >>= _) _ _ _
      refine wpAny_bind (wpAny_updateSeq (s := s1.setGen T.g gs') e1 rfl (wpAny_pure ⟨plainId_quiet F.plain_extend_loop _, ?_⟩) (by omega) (by show (acc.push v).size ≤ sizeLine + 1; rw [Array.size_push]; omega))
      have kp : ∀ b o, b ≠ T.S → s1.heap.get? b = some o → (s1.heap.update T.S (Obj.mapSeq (·.push v))).get? b = some o := fun b o hb e => (Heap.get?_update_other _ _ (Ne.symm hb)).trans e
      refine ih { s1.setGen T.g gs' with heap := s1.heap.update T.S (Obj.mapSeq (·.push v)) } ?_ ?_ ⟨gs', setGen_at hs1, ?_⟩
      · obtain ⟨og, g1, g2, g3, g4⟩ := M.gen
        exact ⟨og, g1, g2, kp _ _ (Ne.symm T.hSa) g3, g4⟩
      · exact lim_of M.lim fun o e => kp _ o (Nat.ne_of_lt (Nat.lt_of_lt_of_le T.hst (Nat.le_trans T.hb T.hS))) e
      · exact go _ (Slept.push e1 (allBare_setGen (s := s1.setGen T.g gs') (allBare_setGen M.bare hb) rfl))
    · intro hsz
      obtain ⟨bs, H', M, q⟩ := hp
      exact wpAny_pure (hend _ bs H' ((M.kept hk (tk := s1.toks)).gens (allBare_setGen M.bare rfl)) q)
end AK
set_option Elab.async false
set_option linter.all false
set_option maxRecDepth 100000
set_option maxHeartbeats 4000000
namespace AK
open PySem PySem.Spec PyProof.Rows L2 GenW
/-- the generator at a, not begun; W: what it is woken to, whatever list S is to be filled -/
def TgWake (P : Program) (w : World) (A : Around) (a : Addr) (g : Nat) (rows : List (List V)) (s : Shared) (Z : Array Value → Nat → Shared → Prop) : Prop :=
  ∀ (S : Addr) (s2 : Shared), s.heap.objs.size ≤ S → (∀ b o, s.heap.get? b = some o → s2.heap.get? b = some o) → (∃ c, s2.heap.get? S = some (lstObj #[] c)) → s2.os = s.os → s2.gens = s.gens →
    ∃ T : TgC, T.P = P ∧ T.w = w ∧ T.S = S ∧ T.a = a ∧ T.g = g ∧ (∃ gs, s2.gens[g]? = some gs ∧ gs.Goes (model P w) A (tgR T rows) (tgY T) sizeLine (.send .none) (s2.setGen g .running)) ∧
      ∀ s' bs H' acc c, TgM T bs H' s' → TgQ T rows (bs.map V.ref) H' → s'.heap.get? S = some (lstObj acc c) → Vals (bs.map V.ref) acc.toList → Z acc c s'
section
variable {P : Program} {w : World} {A : Around} {E : Value → Shared → Prop} {s : Shared}
theorem tg_collect {Q : List Value → Shared → Prop} {a : Addr} {g : Nat} {rows : List (List V)} (hh : A.handled = none) (hd : A.depth < recursionLimit) (hg : s.heap.IsGen a g) (hl : s.heap.NoLimit)
    (W : TgWake P w A.in1.in1 a g rows s (fun acc _ s' => Q acc.toList s')) : wpAny (model P w) A (collect (.ref a)) Q E s := by
  have ha : a < s.heap.objs.size := by obtain ⟨_, _, _, e, _⟩ := hg; exact Heap.lt_size e
  have hSa : s.heap.objs.size ≠ a := Nat.ne_of_gt ha
  have hSc : s.heap.objs.size ≠ cStatics := by obtain ⟨_, hn, _⟩ := hl; exact Nat.ne_of_gt hn.lt
  unfold collect; refine wpAny_bind (wpAny_runValue (codeAny_builtin F.entry_proto_collect ?_)); rw [Around.under_plainId F.plain_proto_collect _]
  show wpAny _ A.in1 (newList [] >>= fun q => again (.builtin "list.__iadd__" ⟨[q, .ref a], []⟩)) _ _ s
  refine wpAny_bind (wpAny_newObj_type ?_); refine wpAny_pure ⟨plainId_quiet F.plain_list_iadd _, codeAny_builtin F.entry_list_iadd ?_⟩; rw [Around.under_plainId F.plain_list_iadd _]
  have kp : ∀ b o, s.heap.get? b = some o → (s.heap.push { cls := .type "list", data := .seq ([] : List Value).toArray }).get? b = some o := fun b o e => Heap.get?_push_of_some _ e
  have ty : ∀ {h : Heap}, (∀ b o, s.heap.get? b = some o → h.get? b = some o) → h.IsGen a g := fun {h} q => hg.keeps q
  show wpAny _ A.in1 (Builtin.List.listExtendWith (.ref s.heap.objs.size) (.ref a) (.ref s.heap.objs.size)) _ _ _
  unfold Builtin.List.listExtendWith; refine wpAny_bind (wpAny_typeOf (Heap.IsGen.typeIs (s := { s with heap := _ }) (ty kp)) ?_)
  have d1 : Builtin.List.listSameRef (.ref s.heap.objs.size) (.ref a) = false := by simp [Builtin.List.listSameRef, hSa]
  have d2 : (Value.type "generator" == Value.type "list") = false ∧ (Value.type "generator" == Value.type "tuple") = false := ⟨by decide, by decide⟩
  simp only [d1, d2.1, d2.2, Bool.or_false, Bool.false_eq_true, if_false]
  refine wpAny_bind (wpAny_pyIter_gen (s := { s with heap := _ }) (ty kp) (wpAny_bind (wpAny_holding ?_)))
  unfold Builtin.List.listLengthHint; refine wpAny_bind (wpAny_specialOf (Heap.IsGen.typeIs (s := { s with heap := _ }) (ty kp)) F.gen_no_len ?_)
  show wpAny _ A.in1 (specialOf (Value.ref a) (Str.ofString "__length_hint__") >>= _) _ _ _
  refine wpAny_bind (wpAny_specialOf (Heap.IsGen.typeIs (s := { s with heap := _ }) (ty kp)) F.gen_no_hint (wpAny_pure ?_))
  show wpAny _ A.in1 (rule "list.extend.makes-room" >>= fun _ => Builtin.List.listTouch (.ref s.heap.objs.size) >>= fun _ => again (.builtin "list.extend.loop" ⟨[.ref s.heap.objs.size, .ref a, .ref s.heap.objs.size], []⟩)) _ _ _
  refine wpAny_bind (wpAny_rule (wpAny_bind ?_))
  have e1 : (s.heap.push { cls := .type "list", data := .seq ([] : List Value).toArray }).get? s.heap.objs.size = some { cls := .type "list", data := .seq ([] : List Value).toArray } := Heap.get?_push_size _ rfl
  show wpAny _ A.in1 (updateSeq s.heap.objs.size (·.push .none) >>= fun _ => updateSeq s.heap.objs.size (·.pop)) _ _ _
  refine wpAny_bind (wpAny_updateSeq e1 rfl ?_)
  have e2 := Heap.get?_update_self (Obj.mapSeq (·.push Value.none)) e1 rfl
  refine wpAny_updateSeq e2 rfl ?_
  have e3 := Heap.get?_update_self (Obj.mapSeq (·.pop)) e2 rfl
  have kp3 : ∀ b o, s.heap.get? b = some o → (((s.heap.push { cls := .type "list", data := .seq ([] : List Value).toArray }).update s.heap.objs.size (Obj.mapSeq (·.push Value.none))).update s.heap.objs.size (Obj.mapSeq (·.pop))).get? b = some o := fun b o e => by
    have hb : s.heap.objs.size ≠ b := Nat.ne_of_gt (Heap.lt_size e)
    exact (Heap.get?_update_other _ _ hb).trans ((Heap.get?_update_other _ _ hb).trans (kp b o e))
  obtain ⟨T, rfl, rfl, t3, rfl, rfl, go, fin⟩ := W s.heap.objs.size { s with heap := _ } (Nat.le_refl _) kp3 ⟨_, e3⟩ rfl rfl
  refine wpAny_pure ⟨plainId_quiet F.plain_extend_loop _, ?_⟩
  have D : ∀ Rr : Result → Shared → Prop, (∀ s' bs H', TgM T bs H' s' → TgQ T rows (bs.map V.ref) H' → Rr (.ok (.ret (.ref s.heap.objs.size))) s') → codeAny (model T.P T.w) A (.builtin "list.extend.loop" ⟨[.ref T.S, .ref T.a, .ref s.heap.objs.size], []⟩) Rr _ := fun Rr h =>
    tg_drain (T := T) (rows := rows) (A := A) (res := .ref s.heap.objs.size) hh hd h sizeLine { s with heap := _ } (ty kp3) (hl.keeps kp3) go
  rw [t3] at D
  refine D _ fun s' bs H' M q => ?_
  obtain ⟨acc, c, f1, f2⟩ := M.ls
  rw [t3] at f1
  show wpAny _ A (load s.heap.objs.size >>= _) _ _ s'
  exact wpAny_bind (wpAny_load f1 (wpAny_pure (fin s' bs H' acc c M q f1 f2)))
end
end AK
set_option Elab.async false
set_option linter.all false
set_option maxRecDepth 100000
set_option maxHeartbeats 4000000
namespace AK
open PySem PySem.Spec PyProof.Rows L2 GenW
section
variable {P : Program} {w : World} {A : Around} {E : Value → Shared → Prop} {s : Shared}
theorem tg_new {Q : Value → Shared → Prop} {a : Addr} {g : Nat} {rows : List (List V)} (hh : A.handled = none) (hd : A.depth < recursionLimit) (hg : s.heap.IsGen a g) (hl : s.heap.NoLimit)
    (W : TgWake P w A.in1.in1.in1 a g rows s (fun acc _ s' => acc.size ≤ sizeLine ∧ Q (.ref s'.heap.objs.size) { s' with heap := s'.heap.push { cls := .type "tuple", data := .seq acc } })) :
    codeAny (model P w) A (.call (.builtin "tuple.__new__") ⟨[.type "tuple", .ref a], []⟩) (wants Q E) s := by
  refine codeAny_of_tree ?_; show wpAny _ A.in1 (do checkBuiltinCall "tuple.__new__" ⟨[.type "tuple", .ref a], []⟩; again (.builtin "tuple.__new__" ⟨[.type "tuple", .ref a], []⟩)) _ _ s
  refine wpAny_bind (wpAny_of_eq (F.newCall_tuple_1 _) (wpAny_pure ⟨plainId_quiet F.plain_tuple_new _, codeAny_builtin F.entry_tuple_new ?_⟩)); rw [Around.under_plainId F.plain_tuple_new _]
  have z1 := sub_tuple_self
  have z2 := init_tuple_lookup
  have z3 := madeHere_tuple
  have z4 : s.TypeIs (.ref a) "generator" := hg.typeIs
  have C : ∀ (Q' : List Value → Shared → Prop) (E' : Value → Shared → Prop), (∀ acc s', acc.size ≤ sizeLine → Q (.ref s'.heap.objs.size) { s' with heap := s'.heap.push { cls := .type "tuple", data := .seq acc } } → Q' acc.toList s') → wpAny (model P w) A.in1 (collect (.ref a)) Q' E' s := fun Q' E' h =>
    tg_collect (rows := rows) hh (by show A.depth < _; exact hd) hg hl (fun S s2 x1 x2 x3 x4 x5 => by
      obtain ⟨T, t1, t2, t3, t4, t5, go, fin⟩ := W S s2 x1 x2 x3 x4 x5
      exact ⟨T, t1, t2, t3, t4, t5, go, fun s' bs H' acc c y1 y2 y3 y4 => h acc s' (fin s' bs H' acc c y1 y2 y3 y4).1 (fin s' bs H' acc c y1 y2 y3 y4).2⟩)
  wp_walk using wpAny_typeOf z4, C
  intro acc s' hz hq
  show wpAny _ _ (Builtin.Tuple.tupleExact acc.toList.toArray >>= fun v => ret v) _ _ _
  unfold Builtin.Tuple.tupleExact; refine wpAny_bind (wpAny_newObj_type (wpAny_pure ?_) (by show acc.toList.toArray.size ≤ sizeLine; simp only [Array.toArray_toList]; exact hz))
  have e : acc.toList.toArray = acc := by simp
  rw [e]
  exact hq
theorem tg_tuple {Q : Value → Shared → Prop} {a : Addr} {g : Nat} {rows : List (List V)} (hh : A.handled = none) (hd : A.depth < recursionLimit) (hg : s.heap.IsGen a g) (hl : s.heap.NoLimit)
    (W : TgWake P w A.in1.in1.in1.in1 a g rows s (fun acc _ s' => acc.size ≤ sizeLine ∧ Q (.ref s'.heap.objs.size) { s' with heap := s'.heap.push { cls := .type "tuple", data := .seq acc } })) :
    wpAny (model P w) A (call (.type "tuple") [.ref a]) Q E s := by
  refine callType_codes (Q₁ := fun obj s1 => s1.TypeIs obj "tuple" ∧ Q obj s1) F.called_tuple (F.typeCall_tuple_1 _) F.entry_object_init (tg_new (A := A.in1) (rows := rows) hh (by show A.depth < _; exact hd) hg hl fun S s2 x1 x2 x3 x4 x5 => ?_) fun obj s1 h1 => ?_
  · obtain ⟨T, t1, t2, t3, t4, t5, go, fin⟩ := W S s2 x1 x2 x3 x4 x5
    exact ⟨T, t1, t2, t3, t4, t5, go, fun s' bs H' acc c y1 y2 y3 y4 => ⟨(fin s' bs H' acc c y1 y2 y3 y4).1, ⟨_, Heap.get?_push_size _ rfl, rfl⟩, (fin s' bs H' acc c y1 y2 y3 y4).2⟩⟩
  · exact ⟨h1.1, F.args_object_init_2 obj _, object_init_meets F.called_tuple.init.lookup F.called_tuple.made (by decide) P w A.in1 _ s1 ⟨h1.1, rfl, h1.2⟩⟩
end
end AK
set_option Elab.async false
set_option linter.all false
set_option maxRecDepth 100000
set_option maxHeartbeats 4000000
namespace AK
open PySem PySem.Spec PyProof.Rows L2 GenW
/-- a list or a tuple that H holds itself -/
def RowAt (H : Hp) (a : Addr) (row : List V) : Prop := H a = some (.lst row) ∨ H a = some (.tup row)
/-- tuple(tuple(x) for x in te): te a list or tuple of lists or tuples; behind it the def's table at P may have grown -/
def tTupG (P : Addr) (te : TE) : TE := fun σ H Q => te σ H fun v H1 => ∃ (l : Addr) (as : List Addr) (rows : List (List V)), v = .ref l ∧ RowAt H1 l (as.map V.ref) ∧ as.length = rows.length ∧ as.length ≤ sizeLine ∧
  (∀ (i : Nat) (a : Addr) (row : List V), as[i]? = some a → rows[i]? = some row → RowAt H1 a row) ∧ GxR.TabG H1 P ∧
  ∀ (H2 : Hp) (t : Addr) (bs : List Addr), (∀ b o, b ≠ P → H1 b = some o → H2 b = some o) → GxR.TabG H2 P → H1 t = none → H2 t = some (.tup (bs.map V.ref)) → bs.length = rows.length →
    (∀ (i : Nat) (b : Addr) (row : List V), bs[i]? = some b → rows[i]? = some row → H2 b = some (.tup row)) → Q (.ref t) H2
section
variable {X : Cx}
theorem pe_tupG {c P : Addr} {iter : Expr} {x : Str} {px p0 p1 p2 p3 pos gpos : Pos} {scope : Scope} {te : TE} {k : Nat}
    (hr : Room k X.A) (hg : Gl X "tuple") (hm : X.mg "tuple" = none) (TB : GxR.TabB X.base X.mg c P) (hcode : X.env.code = .ref c) (S : GxR.GenS X.env scope x) (hi : PE X iter te) (hgt : scope.names.lookup (Str.ofString "tuple") = some .globalImplicit) (hd : (x == ("__debug__" : Str)) = false)
    (hs : ∀ v, genFold iter X.env v = pure v)
    (he : starEach [.GeneratorExp (.Call (.Name "tuple" p1) [.Name x p2] [] p3) [⟨.Name x px, iter, [], 0⟩] scope gpos] X.env = (false, eval (.GeneratorExp (.Call (.Name "tuple" p1) [.Name x p2] [] p3) [⟨.Name x px, iter, [], 0⟩] scope gpos) X.env) :: starEach [] X.env := by rfl) :
    PE X (.Call (.Name "tuple" p0) [.GeneratorExp (.Call (.Name "tuple" p1) [.Name x p2] [] p3) [⟨.Name x px, iter, [], 0⟩] scope gpos] [] pos) (tTupG P te) := by
  refine ⟨fun pins s σ H Q I h => ?_⟩
  refine wpAny_Call_Name_kw (ld_blt (u := .type "tuple") I hg hm (by decide +kernel) ?_)
  refine PyProof.Rows.callWith_type1 ?_ he (by rfl)
  rw [he]
  show wpAny _ _ (spliced ((false, eval (.GeneratorExp (.Call (.Name "tuple" p1) [.Name x p2] [] p3) [⟨.Name x px, iter, [], 0⟩] scope gpos) X.env) :: backTo pos (starEach [] X.env))) _ _ s
  refine Calls.spliced_cons (wpAny_GeneratorExp_make S.co (closure_ok S.free) S.cell S.dot S.kind hr.depth ?_ hs)
  refine thn (hi.run pins s σ H _ I h) fun xv s1 ⟨v, H1, I1, r1, q1⟩ => ?_
  obtain ⟨l, as, rows, rfl, hl, hlen, hle, hrow, ⟨ps, hP, ht⟩, q1⟩ := q1
  obtain rfl : xv = Value.ref l := r1
  have hPs : s1.heap.get? P = some { cls := .none, data := .fields ps } := I1.hok P _ hP
  have hPlt : P < s1.heap.objs.size := Heap.lt_size hPs
  -- what follows once the iterator o stands at I = s1's size
  have core : ∀ (o : Obj) (its : Array Value) (St₀ : Nat → Heap → Prop), its.size = rows.length → (∀ (i : Nat) (v : Value), its[i]? = some v → ∃ a, v = .ref a ∧ as[i]? = some a) → (∀ A' : Around, A'.handled = none → Walks X.prog X.w A' s1.heap.objs.size [s1.heap.objs.size, l] [s1.heap.objs.size] its.size (fun i v => its[i]? = some v) St₀) →
      (∀ h : Heap, (∀ b u, (b = s1.heap.objs.size ∨ b = l) → (s1.heap.push o).get? b = some u → h.get? b = some u) → St₀ 0 h) →
      (s1.heap.push o).NoLimit ∧ wpAny (model X.prog X.w) X.A (genexprCode X.env gpos (X.env.qual ++ "<genexpr>") scope) (fun code s3 => wpAny (model X.prog X.w) X.A (builtinsFor X.env.globals X.env.builtins) (fun bi s4 =>
        ∀ h', h'.Ns s4.heap.objs.size (fun y => if y = ".0" then some (.ref s1.heap.objs.size) else none) → Heap.SameBut s4.heap.objs.size (s4.heap.push { cls := .type "frame", data := .dict #[] }) h' →
          wpAny (model X.prog X.w) X.A (spliced (backTo pos (starEach [] X.env))) (fun vs s9 => wpAny (model X.prog X.w) X.A (call (.type "tuple") (.ref h'.objs.size :: vs)) (EP X pins σ Q) X.xe s9) X.xe { s4 with
            gens := s4.gens.push (.fresh (.compStart (.GeneratorExp (.Call (.Name "tuple" p1) [.Name x p2] [] p3) [⟨.Name x px, iter, [], 0⟩] scope gpos) 0 (.ref s1.heap.objs.size) .none (genEnv scope (cloFrom X.env.cells scope.names []) s4.heap.objs.size code bi X.env))),
            toks := s4.toks + 1 + 1 + 1,
            heap := h'.push { cls := .type "generator", data := .fields #[.int s4.gens.size 0, .str "<genexpr>" (s4.toks + 1), .str (X.env.qual ++ "<genexpr>") (s4.toks + 1 + 1)] } }) X.xe s3) X.xe { s1 with heap := s1.heap.push o } := by
    intro o its St₀ hsz hat W hst0
    have kp1 : ∀ b u, s1.heap.get? b = some u → (s1.heap.push o).get? b = some u := fun b u e => Heap.get?_push_of_some _ e
    have hP2 : (s1.heap.push o).get? P = some { cls := .none, data := .fields ps } := kp1 _ _ hPs
    have cd : PySem.W.CodeHd (s1.heap.push o) c P := TB.code.keeps fun b u e => kp1 b u (I1.bk b u e)
    have lim2 : (s1.heap.push o).NoLimit := I1.nolimit.push o
    refine ⟨lim2, ?_⟩
    have rest : ∀ (code : Value) (h3 : Heap) (tk : Nat) (ps' : Array Value), Heap.ExtBut P (s1.heap.push o) h3 → (s1.heap.push o).objs.size ≤ h3.objs.size → h3.get? P = some { cls := .none, data := .fields ps' } → (∃ more, ps' = ps ++ more) → TriplesOk ps'.toList →
        wpAny (model X.prog X.w) X.A (builtinsFor X.env.globals X.env.builtins) (fun bi s4 =>
          ∀ h', h'.Ns s4.heap.objs.size (fun y => if y = ".0" then some (.ref s1.heap.objs.size) else none) → Heap.SameBut s4.heap.objs.size (s4.heap.push { cls := .type "frame", data := .dict #[] }) h' →
            wpAny (model X.prog X.w) X.A (spliced (backTo pos (starEach [] X.env))) (fun vs s9 => wpAny (model X.prog X.w) X.A (call (.type "tuple") (.ref h'.objs.size :: vs)) (EP X pins σ Q) X.xe s9) X.xe { s4 with
              gens := s4.gens.push (.fresh (.compStart (.GeneratorExp (.Call (.Name "tuple" p1) [.Name x p2] [] p3) [⟨.Name x px, iter, [], 0⟩] scope gpos) 0 (.ref s1.heap.objs.size) .none (genEnv scope (cloFrom X.env.cells scope.names []) s4.heap.objs.size code bi X.env))),
              toks := s4.toks + 1 + 1 + 1,
              heap := h'.push { cls := .type "generator", data := .fields #[.int s4.gens.size 0, .str "<genexpr>" (s4.toks + 1), .str (X.env.qual ++ "<genexpr>") (s4.toks + 1 + 1)] } }) X.xe { s1 with heap := h3, toks := tk } := by
      intro code h3 tk ps' hx hsz3 hP3 hmore ht3
      obtain ⟨more, rfl⟩ := hmore
      obtain ⟨bm, ob, b1, b2, b3, b4, b5, b6, b7, b8⟩ := TB.bm
      have kp3 : ∀ b u, b ≠ P → s1.heap.get? b = some u → h3.get? b = some u := fun b u hb e => hx b u hb (kp1 b u e)
      have sz1 : (s1.heap.push o).objs.size = s1.heap.objs.size + 1 := Heap.size_push ..
      have hcP : cStatics ≠ P := fun z => by
        obtain ⟨_, ⟨o', es, ep, ho, hd', _⟩, _⟩ := I1.nolimit
        rw [z, hPs] at ho
        cases ho
        cases hd'
      refine wpAny_builtinsFor (m := X.mg) (by rw [I1.ok.glob]; exact ((I1.mod.glob.keeps I1.bk).push o).extBut hx TB.gP) b1 b2 (kp3 _ _ b4 (I1.bk _ _ b5)) b6 b7 b8 ?_
      intro h' hn' sb
      refine Calls.spliced_nil ?_
      have J : Inv X pins σ (upd H1 P (.tbl (ps ++ more))) { s1 with heap := h3, toks := tk } := GxR.inv_tab (g' := s1.gens) (d' := s1.drawn) I1 hP kp3 hP3 I1.bare
      have szh : h'.objs.size = h3.objs.size + 1 := by rw [sb.1, Heap.size_push]
      have kp4 : ∀ b u, h3.get? b = some u → h'.get? b = some u := fun b u e => sb.extBut b u (Nat.ne_of_lt (Heap.lt_size e)) (Heap.get?_push_of_some _ e)
      have lim3 : h3.NoLimit := J.nolimit
      have upd_at : ∀ b, b ≠ P → upd H1 P (.tbl (ps ++ more)) b = H1 b := fun b hb => upd_ne hb
      have neP : ∀ {b u}, H1 b = some u → (∀ q, u ≠ .tbl q) → b ≠ P := fun {b u} e hq z => by
        rw [z, hP] at e
        exact hq ps (Option.some.inj e).symm
      have rowP : ∀ {b row}, RowAt H1 b row → b ≠ P := fun {b row} r => by
        rcases r with r | r
        · exact neP r fun q z => by cases z
        · exact neP r fun q z => by cases z
      have row4 : ∀ {b row}, RowAt H1 b row → RowAt (upd H1 P (.tbl (ps ++ more))) b row := fun {b row} r => by
        have hb := rowP r
        unfold RowAt
        rw [upd_at b hb]
        exact r
      have baseLt : cStatics < X.base.objs.size := by
        obtain ⟨_, hn, _⟩ := I1.ok.mod.nolimit
        exact hn.lt
      have bsz1 : X.base.objs.size ≤ s1.heap.objs.size := Nat.le_trans I1.ok.bsz I1.sz
      refine tg_tuple (rows := rows) hr.hd hr.depth ⟨_, _, _, Heap.get?_push_size _ rfl, rfl, rfl, rfl⟩ ?_ ?_
      · exact lim3.keeps fun b u e => Heap.get?_push_of_some _ (kp4 b u e)
      intro Z s2 x1 x2 x3 x4 x5
      have szG : (h'.push { cls := .type "generator", data := .fields #[.int s1.gens.size 0, .str "<genexpr>" (tk + 1), .str (X.env.qual ++ "<genexpr>") (tk + 1 + 1)] }).objs.size = h3.objs.size + 2 := by rw [Heap.size_push, szh]
      have x1' : h3.objs.size + 2 ≤ Z := by rw [← szG]; exact x1
      have kp5 : ∀ b u, h3.get? b = some u → s2.heap.get? b = some u := fun b u e => x2 b u (Heap.get?_push_of_some _ (kp4 b u e))
      have h31 : s1.heap.objs.size + 1 ≤ h3.objs.size := by rw [← sz1]; exact hsz3
      have y3 : s1.heap.objs.size < h3.objs.size := h31
      have y4 : h3.objs.size < Z := Nat.lt_of_lt_of_le (Nat.lt_add_of_pos_right (by decide)) x1'
      have y5 : h3.objs.size < h'.objs.size := by rw [szh]; exact Nat.lt_succ_self _
      have y6 : h'.objs.size < Z := by rw [szh]; exact x1'
      have y1 : h3.objs.size ≤ Z := Nat.le_of_lt y4
      have y2 : h3.objs.size ≤ h'.objs.size := Nat.le_of_lt y5
      have hg2 : s2.gens[s1.gens.size]? = some (.fresh (.compStart (.GeneratorExp (.Call (.Name "tuple" p1) [.Name x p2] [] p3) [⟨.Name x px, iter, [], 0⟩] scope gpos) 0 (.ref s1.heap.objs.size) .none (genEnv scope (cloFrom X.env.cells scope.names []) h3.objs.size code builtinsNs X.env))) := by
        rw [x5]
        exact Array.getElem?_push_size ..
      let T : TgC := ⟨X.prog, X.w, frs X.stack, X.base, upd H1 P (.tbl (ps ++ more)), { s1 with heap := h3, toks := tk }, s1.heap.objs.size, h3.objs.size, Z, h'.objs.size, s1.gens.size, bsz1, Nat.le_refl _, y1, y2, Nat.le_trans bsz1 (Nat.le_of_lt y3), y3, Nat.ne_of_lt y4, Nat.ne_of_lt y5, Nat.ne_of_gt y6, baseLt⟩
      have B : TgB T X.mg := ⟨I1.mod.glob, I1.mod.blt, hm⟩
      have fresh4 : ∀ b : Addr, h3.objs.size ≤ b → upd H1 P (.tbl (ps ++ more)) b = none := fun b hb => J.hok.fresh hb
      have n1I : upd H1 P (.tbl (ps ++ more)) s1.heap.objs.size = none := by
        rw [upd_at _ (Nat.ne_of_gt hPlt)]
        exact I1.hok.fresh (Nat.le_refl _)
      have bare2 : AllBare s2.gens := by
        rw [x5]
        exact AllBare.push I1.bare rfl
      obtain ⟨c0, hS0⟩ := x3
      have M0 : TgM T [] (upd H1 P (.tbl (ps ++ more))) (s2.setGen s1.gens.size .running) :=
        ⟨x4, allBare_setGen bare2 rfl, lim3.keeps kp5, ⟨_, _, _, x2 _ _ (Heap.get?_push_size _ rfl), rfl, rfl, rfl⟩, Un.kept kp5, J.hok.kept kp5, ⟨_, (hn'.keeps fun b u e => x2 b u (Heap.get?_push_of_some _ e))⟩, ⟨#[], c0, hS0, .nil⟩, n1I, fresh4 _ (Nat.le_refl _), fresh4 _ y1, fresh4 _ y2, Same.refl _, fun b u e => kp5 b u (J.bk b u e)⟩
      refine ⟨T, rfl, rfl, rfl, rfl, rfl, ⟨_, hg2, rfl, ?_⟩, ?_⟩
      · -- the generator's code
        have W' := W
        have hh : X.A.in1.in1.in1.in1.handled = none := hr.hd
        have hh2 : (X.A.in1.in1.in1.in1.over (.compStart (.GeneratorExp (.Call (.Name "tuple" p1) [.Name x p2] [] p3) [⟨.Name x px, iter, [], 0⟩] scope gpos) 0 (.ref s1.heap.objs.size) .none (genEnv scope (cloFrom X.env.cells scope.names []) h3.objs.size code builtinsNs X.env)) []).handled = none := hr.hd
        have st0 : St₀ 0 (s2.setGen s1.gens.size .running).heap := hst0 _ fun b u hb e => kp5 b u (hx b u (by
          rcases hb with z | z
          · rw [z]; exact Nat.ne_of_gt hPlt
          · rw [z]; exact rowP hl) e)
        have loop := fun s0 => tg_loop (T := T) (mg := X.mg) B (A := X.A.in1.in1.in1.in1) (cenv := genEnv scope (cloFrom X.env.cells scope.names []) h3.objs.size code builtinsNs X.env) (x := x) (px := px) (p1 := p1) (p2 := p2) (p3 := p3) (pos := gpos) (iter := iter) (scope := scope) (l := l) (as := as) (rows := rows) (St₀ := St₀) (its := its)
          hh W hsz (by rw [← hlen]; exact hle) (fun i v hv => by
            obtain ⟨a, rfl, ha⟩ := hat i v hv
            have hi : i < rows.length := by rw [← hsz]; exact (Array.getElem?_eq_some_iff.mp hv).1
            exact ⟨a, rows[i], rfl, List.getElem?_eq_getElem hi, row4 (hrow i a _ ha (List.getElem?_eq_getElem hi))⟩)
          (by rcases row4 hl with z | z <;> exact ⟨_, z⟩) S.kind I1.ok.glob rfl rfl S.loc hgt hd S.co its.size 0 s0 (s2.setGen s1.gens.size .running) [] _ (Nat.sub_zero _) (Nat.zero_le _) rfl M0 st0 (fun j b row hj => by simp at hj)
        show Seg _ _ _ _ _ _ _ ((compStart (.GeneratorExp (.Call (.Name "tuple" p1) [.Name x p2] [] p3) [⟨.Name x px, iter, [], 0⟩] scope gpos) 0 (.ref s1.heap.objs.size) .none (genEnv scope (cloFrom X.env.cells scope.names []) h3.objs.size code builtinsNs X.env)).onRaise (leaving (genEnv scope (cloFrom X.env.cells scope.names []) h3.objs.size code builtinsNs X.env))) [] _
        unfold compStart
        rw [Sem.onRaise_eq_wrap]
        show Seg _ _ _ _ _ _ _ ((ask >>= _).wrap _ _ _ _) [] _
        refine seg_bind_wrap (wpAny_askSetting ?_)
        split
        · exact seg_again rfl (loop _)
        · first
            | exact seg_bind_wrap (wpAny_rule (seg_bind_wrap (wpAny_standAt (seg_bind_wrap ((W _ hh2).self 0 _ _ _ st0 (seg_again rfl (loop _)))))))
            | (refine seg_bind_wrap (wpAny_rule ?_); show Seg _ _ _ _ _ _ _ ((standAt iter.pos >>= _).wrap _ _ _ _) [] _; exact seg_bind_wrap (wpAny_standAt (seg_bind_wrap ((W _ hh2).self 0 _ _ _ st0 (seg_again rfl (loop _))))))
      · intro s' bs H' acc cc M q eS rv
        obtain ⟨bs', eb, hbl, hbt, hle', _⟩ := q
        have ebs : bs = bs' := by
          exact (List.map_inj_right fun y z h => V.ref.inj h).mp eb
        subst ebs
        have hacc : acc.size ≤ sizeLine := by
          have h1 : acc.size = bs.length := TgM.len (T := T) (H := H') (s := s') rv
          omega
        refine ⟨hacc, ?_⟩
        have ex : ExOk X pins [s1.heap.objs.size] := fun b hb => by
          rw [List.mem_singleton.mp hb]
          refine ⟨.inr I1.sz, Nat.ne_of_gt I1.lt, fun y c' e => ?_, fun p hp => ?_⟩
          · obtain ⟨v, o', ho, _⟩ := I1.cell y c' e
            exact Nat.ne_of_lt (Heap.lt_size ho)
          · exact Nat.ne_of_lt (Heap.lt_size (I1.pin p hp).1)
        have K1 : Inv X pins σ (upd H' Z (.lst (bs.map V.ref))) s' := J.drained y1 (by rw [List.length_map]; omega) eS rv ex M.os M.bare M.un M.ok M.nS
        have K2 : Inv X pins σ (upd (upd H' Z (.lst (bs.map V.ref))) s'.heap.objs.size (.tup (bs.map V.ref))) { s' with heap := s'.heap.push { cls := .type "tuple", data := .seq acc } } :=
          K1.laid (t' := s'.toks) (fun b o e => Heap.get?_push_of_some _ e) (Nat.le_refl _) (show ObjOk X.prog X.w _ _ _ (.tup (bs.map V.ref)) from ⟨by rw [List.length_map]; omega, acc.toList, rv, by
            have e : acc.toList.toArray = acc := by simp
            rw [e]
            exact IsTup.new _ _⟩)
        have fS : upd H' Z (.lst (bs.map V.ref)) s'.heap.objs.size = none := K1.hok.fresh (Nat.le_refl _)
        have up : ∀ b u, H' b = some u → upd (upd H' Z (.lst (bs.map V.ref))) s'.heap.objs.size (.tup (bs.map V.ref)) b = some u := fun b u e => by
          have e2 : upd H' Z (.lst (bs.map V.ref)) b = some u := by
            rw [upd_ne (ne_of_none e M.nS)]
            exact e
          rw [upd_ne (ne_of_none e2 fS)]
          exact e2
        have ltS : Z < s'.heap.objs.size := Heap.lt_size eS
        refine ⟨.ref s'.heap.objs.size, _, K2, rfl, q1 _ _ bs (fun b u hb e => up b u (hle' b u ((upd_at b hb).trans e))) ⟨_, up P _ (hle' P _ upd_same), ht3⟩ (I1.hok.fresh (Nat.le_of_lt (Nat.lt_trans y3 (Nat.lt_trans y4 ltS)))) upd_same hbl fun i b row h1 h2 => up b _ (hbt i b row h1 h2)⟩
    cases hf : codeAmong gpos ps.toList with
    | none =>
      refine wpAny_genexprCodeX hcode (cd.code hP2 ht) (cd.tab hP2) hf fun c' h' tk hx hge hlt hco' _ htab' _ => ?_
      obtain ⟨_, _, _, _, _, _, _, _, _, _, _, _, _, _, _, _, _, _, _, htr, _⟩ := hco'
      exact rest _ h' tk _ hx (Nat.le_trans hge (Nat.le_of_lt hlt)) htab'.2 ⟨_, rfl⟩ htr
    | some cv =>
      refine wpAny_genexprCode_hit hcode (cd.code hP2 ht) hf ?_
      exact rest cv (s1.heap.push o) s1.toks ps (Heap.ExtBut.refl _ _) (Nat.le_refl _) hP2 ⟨#[], by simp⟩ ht
  have itsAt : ∀ {its : List Value}, Vals (as.map V.ref) its → its.toArray.size = rows.length ∧ ∀ (i : Nat) (v : Value), its.toArray[i]? = some v → ∃ a, v = .ref a ∧ as[i]? = some a := fun {its} rv => by
    have e1 : its.length = as.length := by rw [← rv.length, List.length_map]
    refine ⟨by rw [List.size_toArray, e1, hlen], fun i v hv => ?_⟩
    have hv2 : its[i]? = some v := by simpa using hv
    have hi : i < as.length := by rw [← e1]; exact (List.getElem?_eq_some_iff.mp hv2).1
    have hb : (as.map V.ref)[i]? = some (V.ref as[i]) := by rw [List.getElem?_map, List.getElem?_eq_getElem hi] <;> rfl
    obtain ⟨u, hu, ru⟩ := rv.get hb
    rw [hv2] at hu
    cases hu
    exact ⟨as[i], ru, List.getElem?_eq_getElem hi⟩
  have hl0 := hl
  rcases hl0 with hl0 | hl0
  · obtain ⟨hz, its, n, rv, e⟩ := I1.hok l _ hl0
    have il : s1.heap.IsList l its.toArray := ⟨_, e, rfl, n, rfl⟩
    have hl1 : l < s1.heap.objs.size := Heap.lt_size e
    obtain ⟨z1, z2⟩ := itsAt rv
    refine wpAny_pyIter_list il (core { cls := .type "list_iterator", data := .fields #[.ref l, .int 0 0] } its.toArray (fun i h => h.IsListIter s1.heap.objs.size l i ∧ h.IsList l its.toArray) z1 z2 (fun A' hA => Walks.list hA _ _ (Nat.ne_of_lt hl1) _) fun h k => ?_)
    exact ⟨⟨_, k _ _ (.inl rfl) (Heap.get?_push_size _ rfl), rfl, rfl⟩, ⟨_, k _ _ (.inr rfl) (Heap.get?_push_of_some _ e), rfl, n, rfl⟩⟩
  · obtain ⟨hz, its, rv, o', e, ec, n, ed⟩ := I1.hok l _ hl0
    have il : s1.heap.IsTuple l its.toArray := ⟨o', e, ec, n, ed⟩
    have hl1 : l < s1.heap.objs.size := Heap.lt_size e
    obtain ⟨z1, z2⟩ := itsAt rv
    refine wpAny_pyIter_tuple il (core { cls := .type "tuple_iterator", data := .fields #[.ref l, .int 0 0] } its.toArray (fun i h => h.IsTupleIter s1.heap.objs.size l i ∧ h.IsTuple l its.toArray) z1 z2 (fun A' hA => Walks.tuple hA _ _ (Nat.ne_of_lt hl1) _) fun h k => ?_)
    exact ⟨⟨_, k _ _ (.inl rfl) (Heap.get?_push_size _ rfl), rfl, rfl⟩, ⟨o', k _ _ (.inr rfl) (Heap.get?_push_of_some _ e), ec, n, ed⟩⟩
end
end AK
set_option Elab.async false
set_option linter.all false
set_option maxRecDepth 100000
set_option maxHeartbeats 4000000
namespace AK
open PySem PySem.Spec PyProof.Rows L2
/-! ### enumerate(tuple) -/
theorem new_enumT (l : Addr) (items : Array Value) :
    Meets (Builtin.«enumerate.__new__» ⟨[.type "enumerate", .ref l], []⟩) (fun _ R s => s.heap.IsTuple l items ∧
      R (.ok (.ret (.ref (s.heap.push { cls := .type "tuple_iterator", data := .fields #[.ref l, .int 0 0] }).objs.size)))
        { s with heap := (s.heap.push { cls := .type "tuple_iterator", data := .fields #[.ref l, .int 0 0] }).push { cls := .type "enumerate", data := .fields #[.none, .bool false, .ref s.heap.objs.size, rawInt 0, .none, .none] } }) :=
  .of_wp fun prog w A R s h => by
    obtain ⟨hp, g, d, tk, os⟩ := s; obtain ⟨⟨o, ho, hc, n, hd⟩, h⟩ := h
    have hsub := sub_enumerate; have hT : Heap.IsTuple (Shared.heap ⟨hp, g, d, tk, os⟩) l items := ⟨o, ho, hc, n, hd⟩
    wp_walk using AutoSeq1.wpAny_loadPart' ho
    refine wpAny_stack_any fun st => wpAny_pure ?_; split
    · rename_i c _ _ _ _ _
      cases (c == Value.type "enumerate") <;> (wp_walk using AutoSeq1.wpAny_loadPart' ho, wpAny_pyIter_tuple hT; exact ⟨_, rfl, h⟩)
    · wp_walk using AutoSeq1.wpAny_loadPart' ho, wpAny_pyIter_tuple hT
      exact ⟨_, rfl, h⟩
theorem call_enumT {prog : Program} {w : World} {A : Around} {E : Value → Shared → Prop} {s : Shared} {l : Addr} {items : Array Value} {Q : Value → Shared → Prop} (hL : s.heap.IsTuple l items)
    (h : ∀ h', IsEnum h' (s.heap.objs.size + 1) s.heap.objs.size 0 .none → h'.IsTupleIter s.heap.objs.size l 0 → (∀ b o, s.heap.get? b = some o → h'.get? b = some o) → Q (.ref (s.heap.objs.size + 1)) { s with heap := h' }) :
    wpAny (model prog w) A (call (.type "enumerate") [.ref l]) Q E s := by
  refine callType_new F.called_enumerate (by decide) (F.typeCall_enumerate_1 _) (F.newCall_enumerate_1 _) (fun obj => F.args_object_init_2 obj _) F.entry_enumerate_new (new_enumT l items) ⟨hL, ?_⟩
  have hz : (s.heap.push { cls := .type "tuple_iterator", data := .fields #[.ref l, .int 0 0] }).objs.size = s.heap.objs.size + 1 := Heap.size_push ..
  show _ ∧ _
  rw [hz]
  have he : IsEnum ((s.heap.push { cls := .type "tuple_iterator", data := .fields #[.ref l, .int 0 0] }).push { cls := .type "enumerate", data := .fields #[.none, .bool false, .ref s.heap.objs.size, rawInt 0, .none, .none] }) (s.heap.objs.size + 1) s.heap.objs.size 0 .none := by
    have e := Heap.get?_push_size (s.heap.push { cls := .type "tuple_iterator", data := .fields #[.ref l, .int 0 0] }) (o := { cls := .type "enumerate", data := .fields #[.none, .bool false, .ref s.heap.objs.size, rawInt 0, .none, .none] }) rfl
    rw [hz] at e
    exact e
  exact ⟨⟨_, he, rfl⟩, h _ he ⟨_, Heap.get?_push_of_some _ (Heap.get?_push_size _ rfl), rfl, rfl⟩ fun b o x => Heap.get?_push_of_some _ (Heap.get?_push_of_some _ x)⟩
end AK
set_option Elab.async false
set_option linter.all false
set_option maxRecDepth 100000
set_option maxHeartbeats 4000000
namespace AK
open PySem PySem.Spec PyProof.Rows L2
/-- the tuple at a, each item in a new pair -/
def IteT (K : PySem.W.Frag) (a : Addr) : It :=
  ⟨fun i H => ∃ (xs : List V) (x : V), SqT K H a xs ∧ xs[i]? = some x, fun i H v H' => ∃ T x, v = .ref T ∧ H T = none ∧ H' = upd H T (.tup [.int (i : Nat), x]) ∧ ∀ xs, SqT K H a xs → xs[i]? = some x, fun i H => ∃ xs : List V, SqT K H a xs ∧ xs.length ≤ i⟩
theorem turn_enumT {P : Program} {w : World} {K : PySem.W.Frag} {elts : List Expr} {kk : Nat} {tpos : Pos} (a e it : Addr) :
    Turn P w K (.Tuple elts kk tpos) (IteT K a) [e, it] e (fun i h => (∃ old, IsEnum h e it ((i : Nat) : Int) old) ∧ h.IsTupleIter it a i ∧ e ≠ it ∧ a ≠ it ∧ a ≠ e) where
  mem := by simp
  obj := fun i h st b hb => by
    obtain ⟨⟨old, he⟩, ⟨o, ho, hc, hd⟩, _⟩ := st
    rcases List.mem_cons.mp hb with z | z
    · rw [z]; exact ⟨_, he, fun v q => nomatch q⟩
    · rw [List.mem_singleton.mp z]; exact ⟨o, ho, fun v q => by rw [hd] at q; cases q⟩
  keep := fun i h h' st k => ⟨⟨st.1.choose, k e (by simp) _ st.1.choose_spec⟩, st.2.1.at fun o q => k it (by simp) o q, st.2.2⟩
  item := by
    intro X hP hw hK hc i pins s σ H E I hf st hg; subst hP hw hK
    obtain ⟨⟨old, he⟩, hit, hne, hai, hae⟩ := st
    obtain ⟨xs, x, hq, hx⟩ := hg
    obtain ⟨its, rv, p, hz⟩ := I.tuple hq
    obtain ⟨u, hu, ru⟩ := rv.get hx
    have hel : e < s.heap.objs.size := Heap.lt_size he
    have hil : it < s.heap.objs.size := by obtain ⟨_, q, _⟩ := hit; exact Heap.lt_size q
    have hlen : i < its.toArray.size := by rw [List.size_toArray]; exact (List.getElem?_eq_some_iff.mp hu).1
    refine wpAny_pyNext_enum_itemD (Draws.tuple (A := X.A.in1) (show X.A.in1.handled = none from I.ok.hd hc) it a hai its.toArray) he ⟨hit, p⟩ hlen hne (fun z => ?_) fun v h' tk hv ho st' hT hsz hk => ?_
    · rcases List.mem_cons.mp z with z | z
      · exact hne z
      · exact hae (List.mem_singleton.mp z).symm
    obtain rfl : u = v := by
      have h1 : its[i]? = some v := by simpa using hv
      rw [hu] at h1
      exact Option.some.inj h1
    refine ⟨_, rfl, wpAny_letOwnedTupleGo_enum (s := { s with heap := h', toks := tk + 1 }) ho fun h'' he' sb => ?_⟩
    have hT2 : h''.get? s.heap.objs.size = some { cls := .type "tuple", data := .seq #[.int i tk, u] } := (sb.2 _ (Nat.ne_of_gt hel)).trans hT
    have new : ObjOk X.prog X.w (upd H s.heap.objs.size (.tup [.int (i : Nat), x])) h'' s.heap.objs.size (.tup [.int (i : Nat), x]) := ⟨by show 2 ≤ sizeLine; decide, [.int i tk, u], .cons ⟨_, rfl⟩ (.cons ru .nil), ⟨_, hT2, rfl, _, rfl⟩⟩
    have I1 : Inv X pins σ (upd H s.heap.objs.size (.tup [.int (i : Nat), x])) { s with heap := h'', toks := tk + 1 } :=
      I.turnedNew (ch := [e, it]) (fun b ob hb q => (sb.2 b (fun z => hb (by simp [z]))).trans (hk b ob (fun z => hb (by simp [z])) (fun z => hb (by simp [z])) q)) hf (Nat.le_refl _) new
    refine ⟨.ref s.heap.objs.size, _, I1, rfl, ⟨_, x, rfl, I.hok.fresh (Nat.le_refl _), rfl, fun ys hy => by rw [I.tuple_inj hy hq]; exact hx⟩, ⟨⟨u, ?_⟩, st'.1.at fun o q => (sb.2 it (Ne.symm hne)).trans q, hne, hai, hae⟩, fun b hb => ?_⟩
    · have e1 : ((i + 1 : Nat) : Int) = (i : Int) + 1 := by omega
      rw [e1]; exact he'
    · have hb' : b < s.heap.objs.size := by
        rcases List.mem_cons.mp hb with z | z
        · rw [z]; exact hel
        · rw [List.mem_singleton.mp z]; exact hil
      rw [upd_ne (Nat.ne_of_lt hb')]
      exact (hf b hb).1
  done := by
    intro X hP hw hK hc i pins s σ H E I hf st hg; subst hP hw hK
    obtain ⟨⟨old, he⟩, hit, hne, hai, hae⟩ := st
    obtain ⟨xs, hq, hx⟩ := hg
    obtain ⟨its, rv, p, hz⟩ := I.tuple hq
    obtain ⟨f0, f1, f2, f3, f4, f5⟩ := hf it (by simp)
    have hl := rv.length
    have hT : s.TypeIs (.ref e) "enumerate" := ⟨_, he, rfl⟩
    have hnone : its.toArray[i]? = none := by simp; omega
    unfold pyNext
    refine wpAny_bind (wpAny_attempt (wpAny_callSpecial?_slot (name := Str.ofString "__next__") hT F.slot_enumerate_next (wpAny_call_entry F.slot_enumerate_next hT F.entry_enumerate_next ?_ (F.args_enumerate_next_1 _))))
    show wpAny _ _ (field (.ref e) 2 >>= _) _ _ _; refine wpAny_bind (wpAny_field he rfl (x := .ref it) rfl (wpAny_bind (wpAny_nextOf_tuple_end (show X.A.in1.handled = none from I.ok.hd hc) hit p hnone fun h' x eb hx' => ?_)))
    obtain ⟨o, ho, hcl⟩ := hx'
    refine wpAny_bind (wpAny_isInstance (T := "StopIteration") (b := true) ⟨o, ho, hcl⟩ isSubtype_stop (wpAny_pure ⟨rfl, I.turned (t' := s.toks) (fun b o' hb q => eb b o' hb q) f0 f1 f3 f4 f5⟩))
  self := fun A i s Q E st h => wpAny_pyIter_enum st.1.choose_spec h
/-- enumerate(e), e a list or a tuple -/
def iEnumB (K : PySem.W.Frag) (ta : TA) : TI := fun σ H R => ta σ H fun vs H1 => ∃ a, vs = [.ref a] ∧ ((∃ xs, SqL K H1 a xs ∧ R (Ite K a) H1) ∨ (∃ xs, SqT K H1 a xs ∧ R (IteT K a) H1))
theorem pi_enumB {X : Cx} {e : Expr} {ta : TA} {p pos tpos : Pos} {elts : List Expr} {kk : Nat} (hg : Gl X "enumerate") (hm : X.mg "enumerate" = none) (ha : PA X [e] ta) (hs : starEach [e] X.env = [(false, eval e X.env)] := by rfl) :
    PI X (.Tuple elts kk tpos) (.Call (.Name "enumerate" p) [e] [] pos) (iEnumB X.K ta) := by
  refine ⟨fun pins s σ H R I h => ?_⟩
  refine Call_ (ld_blt I hg hm boot_enumerate (PyProof.Rows.callWith_type1 (thn (ha.run pos pins s σ H _ I h) fun us s1 ⟨vs, H1, I1, r1, q1⟩ => ?_) hs rfl))
  obtain ⟨a, rfl, q1⟩ := q1
  cases r1 with
  | cons r rr =>
    cases rr
    cases r
    have hfp : ∀ b ∈ [s1.heap.objs.size + 1, s1.heap.objs.size], FpOk X pins H1 b := fun b hb => by
      have hle : s1.heap.objs.size ≤ b := by
        rcases List.mem_cons.mp hb with z | z
        · rw [z]; exact Nat.le_add_right _ _
        · rw [List.mem_singleton.mp z]; exact Nat.le_refl _
      exact I1.fpOk hle (I1.hok.fresh hle)
    rcases q1 with ⟨xs, hq, q⟩ | ⟨xs, hq, q⟩
    · obtain ⟨its, rv, p', hz⟩ := I1.list hq
      exact call_enumerate_list p'.isList fun h' he hit hsz hk => wpAny_pyIter_enum he ⟨s1.heap.objs.size + 1, [s1.heap.objs.size + 1, s1.heap.objs.size], _, _, H1, rfl, I1.kept (t' := s1.toks) hk, turn_enum a (s1.heap.objs.size + 1) s1.heap.objs.size, ⟨⟨.none, he⟩, hit, Nat.succ_ne_self _⟩, hfp, q⟩
    · obtain ⟨its, rv, p', hz⟩ := I1.tuple hq
      have ha1 : a < s1.heap.objs.size := by obtain ⟨o, e, _⟩ := p'; exact Heap.lt_size e
      exact call_enumT p' fun h' he hit hk => wpAny_pyIter_enum he ⟨s1.heap.objs.size + 1, [s1.heap.objs.size + 1, s1.heap.objs.size], _, _, H1, rfl, I1.kept (t' := s1.toks) hk, turn_enumT a (s1.heap.objs.size + 1) s1.heap.objs.size, ⟨⟨.none, he⟩, hit, Nat.succ_ne_self _, Nat.ne_of_lt ha1, Nat.ne_of_lt (Nat.lt_succ_of_lt ha1)⟩, hfp, q⟩
end AK
set_option Elab.async false
set_option linter.all false
set_option maxRecDepth 100000
set_option maxHeartbeats 4000000
namespace AK
open PySem PySem.Spec PyProof.Rows L2
/-! ### enumerate(text) -/
/-- the signs of a text, each in a new pair -/
def IteS (x : Str) : It :=
  ⟨fun i _ => i < x.cps.size, fun i H v H' => ∃ T c, v = .ref T ∧ H T = none ∧ H' = upd H T (.tup [.int (i : Nat), .str ⟨#[c]⟩]) ∧ x.cps[i]? = some c, fun i _ => x.cps.size ≤ i⟩
theorem turn_enumS {P : Program} {w : World} {K : PySem.W.Frag} {elts : List Expr} {kk : Nat} {tpos : Pos} (x : Str) (t : Tok) (e it : Addr) :
    Turn P w K (.Tuple elts kk tpos) (IteS x) [e, it] e (fun i h => i ≤ x.cps.size ∧ (∃ old, IsEnum h e it ((i : Nat) : Int) old) ∧ h.IsStrIter it (strIterType x) x t i ∧ e ≠ it) where
  mem := by simp
  obj := fun i h st b hb => by
    obtain ⟨_, ⟨old, he⟩, ⟨o, ho, hc, hd⟩, _⟩ := st
    rcases List.mem_cons.mp hb with z | z
    · rw [z]; exact ⟨_, he, fun v q => nomatch q⟩
    · rw [List.mem_singleton.mp z]; exact ⟨o, ho, fun v q => by rw [hd] at q; cases q⟩
  keep := fun i h h' st k => ⟨st.1, ⟨st.2.1.choose, k e (by simp) _ st.2.1.choose_spec⟩, (let ⟨o, ho, r⟩ := st.2.2.1; ⟨o, k it (by simp) o ho, r⟩), st.2.2.2⟩
  item := by
    intro X hP hw hK hc i pins s σ H E I hf st hg; subst hP hw hK
    obtain ⟨hle, ⟨old, he⟩, hit, hne⟩ := st
    have hel : e < s.heap.objs.size := Heap.lt_size he
    have hil : it < s.heap.objs.size := by obtain ⟨_, q, _⟩ := hit; exact Heap.lt_size q
    refine wpAny_pyNext_enum_itemD (Draws.text (A := X.A.in1) (show X.A.in1.handled = none from I.ok.hd hc) it x t) he hit hg hne (fun z => hne (List.mem_singleton.mp z)) fun v h' tk hv ho st' hT hsz hk => ?_
    obtain ⟨c, u, hcx, rfl⟩ := hv
    refine ⟨_, rfl, wpAny_letOwnedTupleGo_enum (s := { s with heap := h', toks := tk + 1 }) ho fun h'' he' sb => ?_⟩
    have hT2 : h''.get? s.heap.objs.size = some { cls := .type "tuple", data := .seq #[.int i tk, .str ⟨#[c]⟩ u] } := (sb.2 _ (Nat.ne_of_gt hel)).trans hT
    have new : ObjOk X.prog X.w (upd H s.heap.objs.size (.tup [.int (i : Nat), .str ⟨#[c]⟩])) h'' s.heap.objs.size (.tup [.int (i : Nat), .str ⟨#[c]⟩]) := ⟨by show 2 ≤ sizeLine; decide, [.int i tk, .str ⟨#[c]⟩ u], .cons ⟨_, rfl⟩ (.cons ⟨_, rfl⟩ .nil), ⟨_, hT2, rfl, _, rfl⟩⟩
    have I1 : Inv X pins σ (upd H s.heap.objs.size (.tup [.int (i : Nat), .str ⟨#[c]⟩])) { s with heap := h'', toks := tk + 1 } :=
      I.turnedNew (ch := [e, it]) (fun b ob hb q => (sb.2 b (fun z => hb (by simp [z]))).trans (hk b ob (fun z => hb (by simp [z])) (fun z => hb (by simp [z])) q)) hf (Nat.le_refl _) new
    have hst2 : h''.IsStrIter it (strIterType x) x t (i + 1) := let ⟨o, ho, r⟩ := st'; ⟨o, (sb.2 it (Ne.symm hne)).trans ho, r⟩
    refine ⟨.ref s.heap.objs.size, _, I1, rfl, ⟨_, c, rfl, I.hok.fresh (Nat.le_refl _), rfl, hcx⟩, ⟨hg, ⟨.str ⟨#[c]⟩ u, ?_⟩, hst2, hne⟩, fun b hb => ?_⟩
    · have e1 : ((i + 1 : Nat) : Int) = (i : Int) + 1 := by omega
      rw [e1]; exact he'
    · have hb' : b < s.heap.objs.size := by
        rcases List.mem_cons.mp hb with z | z
        · rw [z]; exact hel
        · rw [List.mem_singleton.mp z]; exact hil
      rw [upd_ne (Nat.ne_of_lt hb')]
      exact (hf b hb).1
  done := by
    intro X hP hw hK hc i pins s σ H E I hf st hg; subst hP hw hK
    obtain ⟨hle, ⟨old, he⟩, hit, hne⟩ := st
    obtain ⟨f0, f1, f2, f3, f4, f5⟩ := hf it (by simp)
    have hi : i = x.cps.size := Nat.le_antisymm hle hg
    subst hi
    exact wpAny_pyNext_enum_endD (Draws.text (A := X.A.in1) (show X.A.in1.handled = none from I.ok.hd hc) it x t) he hit fun h' eb =>
      ⟨rfl, I.turned (t' := s.toks) (fun b o' hb q => eb b o' hb q) f0 f1 f3 f4 f5⟩
  self := fun A i s Q E st h => wpAny_pyIter_enum st.2.1.choose_spec h
/-- enumerate(e), e a text -/
def iEnumS (ta : TA) : TI := fun σ H R => ta σ H fun vs H1 => ∃ x, vs = [.str x] ∧ R (IteS x) H1
theorem pi_enumS {X : Cx} {e : Expr} {ta : TA} {p pos tpos : Pos} {elts : List Expr} {kk : Nat} (hg : Gl X "enumerate") (hm : X.mg "enumerate" = none) (ha : PA X [e] ta) (hs : starEach [e] X.env = [(false, eval e X.env)] := by rfl) :
    PI X (.Tuple elts kk tpos) (.Call (.Name "enumerate" p) [e] [] pos) (iEnumS ta) := by
  refine ⟨fun pins s σ H R I h => ?_⟩
  refine Call_ (ld_blt I hg hm boot_enumerate (PyProof.Rows.callWith_type1 (thn (ha.run pos pins s σ H _ I h) fun us s1 ⟨vs, H1, I1, r1, q1⟩ => ?_) hs rfl))
  obtain ⟨x, rfl, q⟩ := q1
  cases r1 with
  | cons r rr =>
    cases rr
    obtain ⟨t, rfl⟩ := r
    have hfp : ∀ b ∈ [s1.heap.objs.size + 1, s1.heap.objs.size], FpOk X pins H1 b := fun b hb => by
      have hle : s1.heap.objs.size ≤ b := by
        rcases List.mem_cons.mp hb with z | z
        · rw [z]; exact Nat.le_add_right _ _
        · rw [List.mem_singleton.mp z]; exact Nat.le_refl _
      exact I1.fpOk hle (I1.hok.fresh hle)
    exact call_enumerate_str fun h' he hit hsz hk => wpAny_pyIter_enum he ⟨s1.heap.objs.size + 1, [s1.heap.objs.size + 1, s1.heap.objs.size], _, _, H1, rfl, I1.kept (t' := s1.toks) hk, turn_enumS x t (s1.heap.objs.size + 1) s1.heap.objs.size, ⟨Nat.zero_le _, ⟨.none, he⟩, hit, Nat.succ_ne_self _⟩, hfp, q⟩
end AK
set_option Elab.async false
set_option linter.all false
set_option maxRecDepth 100000
set_option maxHeartbeats 4000000
namespace AK
open PySem PySem.Spec PyProof.Rows L2
/-! ### loops, folded so that simp stops ahead of them -/
def contF (g : TG) (tb : TS) (D : Ends) (σ : L2.St) : It → Hp → Prop := fun J H1 => ∃ W : Nat → Nat → L2.St → Hp → Prop, (∃ m, W 0 m σ H1) ∧ ∀ i m σ H, W i m σ H →
  (J.stop i H ∧ D.nx σ H) ∨ (J.go i H ∧ ∃ N : L2.St → Hp → Prop, (∀ σ' H', N σ' H' → ∃ m', m' < m ∧ W (i + 1) m' σ' H') ∧ ∀ x H', J.yld i H x H' → g x σ H' fun σ2 H2 => tb { D with nx := N, ct := N, bk := D.nx } σ2 H2)
theorem tFor_c {wi : TI} {g : TG} {tb : TS} {D : Ends} {σ : L2.St} {H : Hp} : tFor wi g tb D σ H = wi σ H (contF g tb D σ) := rfl
def contL (g : TG) (tt : TT) (te : TE) (vs : List Nat) (σ : L2.St) (Q : VK) : It → Hp → Prop := fun J H1 => ∀ D, H1 D = none → ∃ W : Nat → Nat → Hp → Prop, (∃ m, W 0 m (upd H1 D (.lst []))) ∧ ∀ i m H, W i m H →
  (J.stop i H ∧ Q (.ref D) H) ∨ (J.go i H ∧ ∃ Nx : Hp → Prop, (∀ H', Nx H' → ∃ m', m' < m ∧ W (i + 1) m' H') ∧ ∀ x H', J.yld i H x H' → g x (wipe σ vs) H' fun σ2 H2 => wipe σ2 vs = wipe σ vs ∧ tt σ2 H2 fun b H3 =>
    if b = true then te σ2 H3 fun y H4 => ∃ acc, H4 D = some (.lst acc) ∧ acc.length < sizeLine ∧ Nx (upd H4 D (.lst (acc ++ [y]))) else Nx H3)
theorem tLc_c {wi : TI} {g : TG} {tt : TT} {te : TE} {vs : List Nat} {σ : L2.St} {H : Hp} {Q : VK} : tLc wi g tt te vs σ H Q = wi σ H (contL g tt te vs σ Q) := rfl
section
variable {g : TG} {tb : TS} {D : Ends} {σ : L2.St} {H : Hp} {K : PySem.W.Frag} {tt : TT} {te : TE} {vs : List Nat} {Q : VK}
theorem forRng {n : Nat} (Pv : Nat → L2.St → Hp → Prop) (h0 : Pv 0 σ H) (hs : ∀ i σ H, i < n → Pv i σ H → g (.int (0 + i)) σ H fun σ2 H2 => tb { D with nx := Pv (i + 1), ct := Pv (i + 1), bk := D.nx } σ2 H2) (hd : ∀ σ H, Pv n σ H → D.nx σ H) :
    contF g tb D σ (Itr 0 n) H := for_range Pv h0 hs hd
theorem forLst {a : Addr} {xs : List V} (Pv : Nat → L2.St → Hp → Prop) (h0 : Pv 0 σ H) (hl : ∀ i σ H, i ≤ xs.length → Pv i σ H → SqL K H a xs) (hs : ∀ i x σ H, xs[i]? = some x → Pv i σ H → g x σ H fun σ2 H2 => tb { D with nx := Pv (i + 1), ct := Pv (i + 1), bk := D.nx } σ2 H2) (hd : ∀ σ H, Pv xs.length σ H → D.nx σ H) :
    contF g tb D σ (Itl K a) H := for_list Pv h0 hl hs hd
theorem forTup {a : Addr} {xs : List V} (Pv : Nat → L2.St → Hp → Prop) (h0 : Pv 0 σ H) (hl : ∀ i σ H, i ≤ xs.length → Pv i σ H → SqT K H a xs) (hs : ∀ i x σ H, xs[i]? = some x → Pv i σ H → g x σ H fun σ2 H2 => tb { D with nx := Pv (i + 1), ct := Pv (i + 1), bk := D.nx } σ2 H2) (hd : ∀ σ H, Pv xs.length σ H → D.nx σ H) :
    contF g tb D σ (Itt K a) H := for_tup Pv h0 hl hs hd
theorem forStr {x : Str} (Pv : Nat → L2.St → Hp → Prop) (h0 : Pv 0 σ H) (hs : ∀ i c σ H, x.cps.toList[i]? = some c → Pv i σ H → g (.str ⟨#[c]⟩) σ H fun σ2 H2 => tb { D with nx := Pv (i + 1), ct := Pv (i + 1), bk := D.nx } σ2 H2) (hd : ∀ σ H, Pv x.cps.toList.length σ H → D.nx σ H) :
    contF g tb D σ (Its x) H := by
  have hz : x.cps.toList.length = x.cps.size := Array.length_toList ..
  refine ⟨fun i m σ H => m = x.cps.size - i ∧ i ≤ x.cps.size ∧ Pv i σ H, ⟨x.cps.size, by simp, Nat.zero_le _, h0⟩, ?_⟩
  rintro i m σ H ⟨rfl, hi, p⟩
  by_cases hlt : i < x.cps.size
  · refine .inr ⟨hlt, Pv (i + 1), fun σ' H' p' => ⟨x.cps.size - (i + 1), by omega, rfl, hlt, p'⟩, fun y H' hy => ?_⟩
    obtain ⟨rfl, c, hc, rfl⟩ := hy
    exact hs i c σ _ (by rw [Array.getElem?_toList]; exact hc) p
  · have e : i = x.cps.size := by omega
    subst e
    exact .inl ⟨Nat.le_refl _, hd σ H (by rw [hz]; exact p)⟩
theorem forEnumL {a : Addr} {xs : List V} (Pv : Nat → L2.St → Hp → Prop) (h0 : Pv 0 σ H) (hl : ∀ i σ H, i ≤ xs.length → Pv i σ H → SqL K H a xs)
    (hs : ∀ i x T σ H, xs[i]? = some x → Pv i σ H → H T = none → g (.ref T) σ (upd H T (.tup [.int (i : Nat), x])) fun σ2 H2 => tb { D with nx := Pv (i + 1), ct := Pv (i + 1), bk := D.nx } σ2 H2) (hd : ∀ σ H, Pv xs.length σ H → D.nx σ H) : contF g tb D σ (Ite K a) H := by
  refine ⟨fun i m σ H => m = xs.length - i ∧ i ≤ xs.length ∧ Pv i σ H, ⟨xs.length, by simp, Nat.zero_le _, h0⟩, ?_⟩
  rintro i m σ H ⟨rfl, hi, p⟩
  have q := hl i σ H hi p
  by_cases hlt : i < xs.length
  · refine .inr ⟨⟨xs, xs[i], q, List.getElem?_eq_getElem hlt⟩, Pv (i + 1), fun σ' H' p' => ⟨xs.length - (i + 1), by omega, rfl, hlt, p'⟩, fun y H' hy => ?_⟩
    obtain ⟨T, x, rfl, hT, rfl, hx⟩ := hy
    exact hs i x T σ H (hx xs q) p hT
  · obtain rfl : i = xs.length := by omega
    exact .inl ⟨⟨xs, q, Nat.le_refl _⟩, hd σ H p⟩
theorem forEnumT {a : Addr} {xs : List V} (Pv : Nat → L2.St → Hp → Prop) (h0 : Pv 0 σ H) (hl : ∀ i σ H, i ≤ xs.length → Pv i σ H → SqT K H a xs)
    (hs : ∀ i x T σ H, xs[i]? = some x → Pv i σ H → H T = none → g (.ref T) σ (upd H T (.tup [.int (i : Nat), x])) fun σ2 H2 => tb { D with nx := Pv (i + 1), ct := Pv (i + 1), bk := D.nx } σ2 H2) (hd : ∀ σ H, Pv xs.length σ H → D.nx σ H) : contF g tb D σ (IteT K a) H := by
  refine ⟨fun i m σ H => m = xs.length - i ∧ i ≤ xs.length ∧ Pv i σ H, ⟨xs.length, by simp, Nat.zero_le _, h0⟩, ?_⟩
  rintro i m σ H ⟨rfl, hi, p⟩
  have q := hl i σ H hi p
  by_cases hlt : i < xs.length
  · refine .inr ⟨⟨xs, xs[i], q, List.getElem?_eq_getElem hlt⟩, Pv (i + 1), fun σ' H' p' => ⟨xs.length - (i + 1), by omega, rfl, hlt, p'⟩, fun y H' hy => ?_⟩
    obtain ⟨T, x, rfl, hT, rfl, hx⟩ := hy
    exact hs i x T σ H (hx xs q) p hT
  · obtain rfl : i = xs.length := by omega
    exact .inl ⟨⟨xs, q, Nat.le_refl _⟩, hd σ H p⟩
theorem lcRng {n : Nat} (Pv : Nat → Addr → Hp → Prop) (h0 : ∀ D, H D = none → Pv 0 D (upd H D (.lst [])))
    (hs : ∀ i D H', H D = none → i < n → Pv i D H' → g (.int (0 + i)) (wipe σ vs) H' fun σ2 H2 => wipe σ2 vs = wipe σ vs ∧ tt σ2 H2 fun b H3 => if b = true then te σ2 H3 fun y H4 => ∃ acc, H4 D = some (.lst acc) ∧ acc.length < sizeLine ∧ Pv (i + 1) D (upd H4 D (.lst (acc ++ [y]))) else Pv (i + 1) D H3)
    (hd : ∀ D H', H D = none → Pv n D H' → Q (.ref D) H') : contL g tt te vs σ Q (Itr 0 n) H := fun D hD => lc_range (fun i H' => Pv i D H') (h0 D hD) (fun i H' hi p => hs i D H' hD hi p) fun H' p => hd D H' hD p
theorem lcLst {a : Addr} {xs : List V} (Pv : Nat → Addr → Hp → Prop) (h0 : ∀ D, H D = none → Pv 0 D (upd H D (.lst []))) (hl : ∀ i D H', H D = none → i ≤ xs.length → Pv i D H' → SqL K H' a xs)
    (hs : ∀ i x D H', H D = none → xs[i]? = some x → Pv i D H' → g x (wipe σ vs) H' fun σ2 H2 => wipe σ2 vs = wipe σ vs ∧ tt σ2 H2 fun b H3 => if b = true then te σ2 H3 fun y H4 => ∃ acc, H4 D = some (.lst acc) ∧ acc.length < sizeLine ∧ Pv (i + 1) D (upd H4 D (.lst (acc ++ [y]))) else Pv (i + 1) D H3)
    (hd : ∀ D H', H D = none → Pv xs.length D H' → Q (.ref D) H') : contL g tt te vs σ Q (Itl K a) H := fun D hD => lc_list (fun i H' => Pv i D H') (h0 D hD) (fun i H' hi p => hl i D H' hD hi p) (fun i x H' hx p => hs i x D H' hD hx p) fun H' p => hd D H' hD p
theorem lcTup {a : Addr} {xs : List V} (Pv : Nat → Addr → Hp → Prop) (h0 : ∀ D, H D = none → Pv 0 D (upd H D (.lst []))) (hl : ∀ i D H', H D = none → i ≤ xs.length → Pv i D H' → SqT K H' a xs)
    (hs : ∀ i x D H', H D = none → xs[i]? = some x → Pv i D H' → g x (wipe σ vs) H' fun σ2 H2 => wipe σ2 vs = wipe σ vs ∧ tt σ2 H2 fun b H3 => if b = true then te σ2 H3 fun y H4 => ∃ acc, H4 D = some (.lst acc) ∧ acc.length < sizeLine ∧ Pv (i + 1) D (upd H4 D (.lst (acc ++ [y]))) else Pv (i + 1) D H3)
    (hd : ∀ D H', H D = none → Pv xs.length D H' → Q (.ref D) H') : contL g tt te vs σ Q (Itt K a) H := fun D hD => lc_tup (fun i H' => Pv i D H') (h0 D hD) (fun i H' hi p => hl i D H' hD hi p) (fun i x H' hx p => hs i x D H' hD hx p) fun H' p => hd D H' hD p
end
/-! ### a list or a tuple: its length, a walk over it -/
section
variable {X : Cx}
def hLenB : List V → Hp → VK → Prop := fun xs H Q => ∃ p ys, xs = [.ref p] ∧ RowAt H p ys ∧ Q (.int ys.length) H
theorem callLenB : CallR X (.builtin "len") hLenB := CallR.imp call_len_seq fun _ _ _ ⟨p, ys, h1, h2, h3⟩ => ⟨p, ys, h1, h2.imp SqL.of SqT.of, h3⟩
def hTupB : List V → Hp → VK → Prop := fun xs H Q => ∃ p ys, xs = [.ref p] ∧ RowAt H p ys ∧ ∀ t H', Same H H' → (H t = none ∨ H t = some (.tup ys)) → H' t = some (.tup ys) → Q (.ref t) H'
theorem callTupB : CallR X (.type "tuple") hTupB := CallR.imp call_tuple_of fun _ H _ ⟨p, ys, h1, h2, h3⟩ => ⟨p, ys, h1, by
  rcases h2 with h2 | h2
  · exact .inl ⟨SqL.of h2, fun l hl => h3 l _ (same_new hl) (.inl hl) upd_same⟩
  · exact .inr ⟨SqT.of h2, h3 p H (Same.refl _) (.inr h2) h2⟩⟩
def hLstB : List V → Hp → VK → Prop := fun xs H Q => ∃ p ys, xs = [.ref p] ∧ RowAt H p ys ∧ ∀ t, H t = none → Q (.ref t) (upd H t (.lst ys))
theorem callLstB : CallR X (.type "list") hLstB := CallR.imp call_list_of fun _ H _ ⟨p, ys, h1, h2, h3⟩ => ⟨p, ys, h1, h2.imp SqL.of SqT.of, h3⟩
def iSeqB (K : PySem.W.Frag) (tl : TE) : TI := fun σ H R => tl σ H fun x H1 => ∃ a, x = .ref a ∧ ((∃ xs, SqL K H1 a xs ∧ R (Itl K a) H1) ∨ (∃ xs, SqT K H1 a xs ∧ R (Itt K a) H1))
theorem pi_seqB {tg l : Expr} {tl : TE} (hl : PE X l tl) : PI X tg l (iSeqB X.K tl) := by
  refine ⟨fun pins s σ H R I h => ?_⟩
  refine thn (hl.run pins s σ H _ I h) fun v s1 ⟨x, H1, I1, r1, a, e, q1⟩ => ?_
  subst e; cases r1
  have hb : ∀ b ∈ [s1.heap.objs.size], FpOk X pins H1 b := fun b hb => by
    rw [List.mem_singleton.mp hb]
    exact I1.fpOk (Nat.le_refl _) (I1.hok.fresh (Nat.le_refl _))
  rcases q1 with ⟨xs, hq, q⟩ | ⟨xs, hq, q⟩
  · obtain ⟨its, rv, p, hz⟩ := I1.list hq
    exact wpAny_pyIter_list p.isList ⟨s1.heap.objs.size, [s1.heap.objs.size], _, _, H1, rfl, I1.kept (t' := s1.toks) fun b o e => Heap.get?_push_of_some _ e, turn_list a _, ⟨_, Heap.get?_push_size _ rfl, rfl, rfl⟩, hb, q⟩
  · obtain ⟨its, rv, p, hz⟩ := I1.tuple hq
    exact wpAny_pyIter_tuple (show s1.heap.IsTuple a its.toArray from p) ⟨s1.heap.objs.size, [s1.heap.objs.size], _, _, H1, rfl, I1.kept (t' := s1.toks) fun b o e => Heap.get?_push_of_some _ e, turn_tuple a _, ⟨_, Heap.get?_push_size _ rfl, rfl, rfl⟩, hb, q⟩
/-- C(e, ..), what is raised wished for at the caller's slots -/
def tMakeS (C : Addr) (sp : Sp) (E : L2.St → XK) (t : TA) : TE := fun σ H Q => t σ H fun vs H1 => ∀ x dx, H1 x = none → H1 dx = none → dx ≠ x → sp (.ref x :: vs) (upd (upd H1 dx (.own x)) x (.ins C dx [])) (fun v H2 => v = .non ∧ Q (.ref x) H2) (E σ)
theorem pe_makeS {CX : CXT} {C f : Addr} {k : Nat} {fd : FuncData} {ps : List Str} {sp : Sp} {E : L2.St → XK} {x : Str} {p pos : Pos} {e : Expr} {es : List Expr} {t : TA} (M : Mk X.K C f) (F : FnOk X.prog X.w X.K X.mg X.base CX k f fd ps sp) (hr : Room (k + 1) X.A) (hg : Gl X x) (hm : X.mg x = some (.ref C)) (hb : Binds X.K fd ps []) (hx : ∀ σ, PassesAt CX X σ (E σ))
    (ha : PA X (e :: es) t) (hdb : (x == ("__debug__" : Str)) = false := by decide) (he : starEach (e :: es) X.env = (false, eval e X.env) :: starEach es X.env := by rfl) (hpl : (backTo pos (starEach es X.env)).any (·.1) = false := by rfl) :
    PE X (.Call (.Name x p) (e :: es) [] pos) (tMakeS C sp E t) := by
  refine ⟨fun pins s σ H Q I h => wpAny_Call_Name_kw (ld_glob I hg hm (PySem.W.callWith_K (h₀ := X.base) I.ok.mod.kin M.kp (thn (ha.run pos pins s σ H _ I h) fun us s1 ⟨vs, H1, I1, r, q⟩ => ⟨I1.kIn, ?_⟩) he hpl) hdb)⟩
  have hq := q (s1.heap.objs.size + 1) s1.heap.objs.size (I1.hok.fresh (Nat.le_succ _)) (I1.hok.fresh (Nat.le_refl _)) (Nat.ne_of_lt (Nat.lt_succ_self _))
  have I2 := Inv.made (C := C) I1
  have r2 : Vals (V.ref (s1.heap.objs.size + 1) :: vs) (Value.ref (s1.heap.objs.size + 1) :: us) := .cons rfl r
  have hl : (Value.ref (s1.heap.objs.size + 1) :: us).length = ps.length := by
    have e := r2.length
    rw [F.len _ _ _ _ hq] at e
    exact e.symm
  have hb2 := hb _ (Value.ref (s1.heap.objs.size + 1) :: us) I2.kIn (by rw [List.append_nil]; exact hl)
  rw [List.append_nil] at hb2
  refine wpAny_call (make_map (f := f) I1.kIn M.makes M.init (beq_iff_eq.mp M.fn) (codeAny_mono (F.run _ X.stack _ _ ⟨Value.ref (s1.heap.objs.size + 1) :: us, []⟩ (Value.ref (s1.heap.objs.size + 1) :: us) _ _ (E σ) (hr.make C us []) (I2.env0.make C us []) hb2 r2 hq) fun r s' hq' => ?_))
  cases r with
  | error er => exact hx σ pins _ _ er s' I2 hq'
  | ok fl =>
    cases fl with
    | ret u =>
      obtain ⟨v, H', I3, rv, ev, q3⟩ := I2.after hq'
      subst ev
      exact ⟨rv, V.ref (s1.heap.objs.size + 1), H', I3, rfl, q3⟩
    | next => exact False.elim hq'
    | brk => exact False.elim hq'
    | cont => exact False.elim hq'
end
end AK
set_option Elab.async false
set_option linter.all false
set_option maxRecDepth 100000
set_option maxHeartbeats 4000000
namespace AK
open PySem PySem.Spec PyProof.Rows L2
/-! ### exceptions -/
/-- what the written part says of an exception class of the program -/
theorem ExcA.excC {K : PySem.W.Frag} {C : Addr} (x : ExcA K C) : ExcC K C := ⟨x.ga, x.gg, x.ex, x.hd, x.hc, x.hn, x.ht, x.hm⟩
theorem ExcA.xf {K : PySem.W.Frag} {C : Addr} (x : ExcA K C) : XfC K C := ⟨x.ga, x.gg, x.ex, x.hd⟩
theorem ExcA.cl {K : PySem.W.Frag} {C : Addr} (x : ExcA K C) : (PySem.W.clsIn K C).isSome = true := by
  have h := x.hd
  unfold PySem.W.hasDictIn at h
  cases q : PySem.W.clsIn K C with
  | none => rw [q] at h; cases h
  | some c => rfl
theorem ExcA.one {K : PySem.W.Frag} {C : Addr} (x : ExcA K C) : PySem.W.exmOne K (.ref C) (.ref C) = some true := by
  unfold PySem.W.exmOne PySem.W.kitCls
  rw [if_pos (by rw [x.ex]; rfl)]
  dsimp only
  rw [if_pos (by rw [x.cl, x.ty]; rfl)]
  exact x.su
theorem ExcA.raises {X : Cx} {C : Addr} (x : ExcA X.K C) : Raises X (.ref C) := raises_own x.ex x.ty
/-- isinstance(e, c) in a suite, e with a dict of its own -/
def rIsD (K : PySem.W.Frag) (D a : Addr) (cls : Value) (d : Option Addr) : List V → Hp → VK → Prop := fun xs H Q => ∃ (c : V) (cv : Value) (b : Bool) (dd : Addr) (fs : List (Str × V)), xs = [.ref a, c] ∧ cls = .ref D ∧ ClsV c cv ∧ PySem.W.kitOne K (.ref D) cv = some b ∧ d = some dd ∧ H dd = some (.xd fs) ∧ Q (.bl b) H
theorem call_isD {X : Cx} {a D : Addr} {oe : Obj} {d : Option Addr} {cls : Value} {pn : List (Addr × Obj)} (C : ExcA X.K D) (hz : Zc cls d oe) (hf : ∃ vs, oe.data = .fields vs) : CallR (X.suite a ((a, oe) :: pn)) (.builtin "isinstance") (rIsD X.K D a cls d) := by
  intro pins s σ H xs us Q I r h
  obtain ⟨c, cv, b, dd, fs, rfl, ec, kc, e, ed, ea, q⟩ := h
  obtain ⟨u1, u2, rfl, r1, r2⟩ := vals2 r
  obtain rfl : u1 = Value.ref a := r1
  have e2 := kc.eq r2
  subst e2
  subst ec
  subst ed
  obtain ⟨ha, _⟩ := I.pin (a, oe) (List.mem_append_left _ List.mem_cons_self)
  obtain ⟨vs, hv⟩ := hf
  have hx : ObjOk X.prog X.w H s.heap dd (.xd fs) := I.hok dd _ ea
  obtain ⟨mA, hns, _⟩ := hx
  obtain ⟨od, ho, _⟩ := lookIn_ns hns
  have J : PySem.W.InstAt s.heap a oe D (some od) := ⟨ha, hz.1, by unfold PySem.W.notCls; rw [hv] <;> rfl, by rw [hz.2]; exact ho⟩
  exact PySem.W.kia_one (PySem.W.kitx_exc C.cl C.ga C.gg C.ex C.hc C.hn C.ht C.hm) I.kIn J e (fun z => nomatch z) fun tk => ⟨.bl b, H, I.tok tk, rfl, q⟩
/-- .. without one -/
def rIsN (K : PySem.W.Frag) (D a : Addr) (cls : Value) (d : Option Addr) : List V → Hp → VK → Prop := fun xs H Q => ∃ (c : V) (cv : Value) (b : Bool), xs = [.ref a, c] ∧ cls = .ref D ∧ d = none ∧ ClsV c cv ∧ PySem.W.kitOne K (.ref D) cv = some b ∧ Q (.bl b) H
theorem call_isN {X : Cx} {a D : Addr} {oe : Obj} {cls : Value} {d : Option Addr} {pn : List (Addr × Obj)} (C : ExcA X.K D) (hz : Zc cls d oe) (hf : ∃ vs, oe.data = .fields vs) :
    CallR (X.suite a ((a, oe) :: pn)) (.builtin "isinstance") (rIsN X.K D a cls d) := by
  intro pins s σ H xs us Q I r h
  obtain ⟨c, cv, b, e0, ec, ed, kc, e, q⟩ := h
  subst ec
  subst ed
  exact call_isE C.excC hz hf pins s σ H xs us Q I r ⟨c, cv, b, e0, fun u ru => kc.eq ru, e, q⟩
end AK
namespace AK
open PySem PySem.Spec PyProof.Rows L2
/-- a def whose code object stands at c -/
theorem FunC.okC {P : Program} {w : World} {K : PySem.W.Frag} {mg : Str → Option Value} {base : Heap} {x qual : Str} {st : Stmt} {f c : Addr} {fd : FuncData} {N ps : List Str} {k : Nat} {sp : Sp} (F : FunC K x qual st f fd c) (S : FnScope N ps (defScope st))
    (hlen : ∀ vs H Q E, sp vs H Q E → vs.length = ps.length)
    (body : ∀ (A : Around) (outer : List Env) (s : Shared) (H : Hp) (vs : List V) (Q : VK) (E : XK), Room k (A.deeper (envOfC qual (defScope st) s.heap.objs.size f (.ref c))) → sp vs H Q E →
      ∃ t, PSs (cxOf (L2.CX P w) P w K mg base N qual (defScope st) f (.ref c) A outer s H E) (defBody st) t ∧ t { nx := fun _ H' => Q .non H', rt := Q } (start N vs) H) : FnOk P w K mg base (L2.CX P w) (k + 1) f fd ps sp := by
  obtain ⟨oc, od, kV, doc, pm, an, ct, osl, rfl, lk, hcd⟩ := F.ex
  exact fn_of lk hcd S hlen fun A outer s H vs Q E hr hsp => body A outer s H vs Q E hr hsp
end AK
set_option Elab.async false
set_option linter.all false
set_option maxRecDepth 100000
set_option maxHeartbeats 4000000
namespace AK
open PySem PySem.Spec PyProof.Rows L2
/-! ### texts -/
def tx (l : List Nat) : Str := ⟨l.toArray⟩
abbrev lt (z : Str) : List Nat := z.cps.toList
theorem lt_tx (l : List Nat) : lt (tx l) = l := rfl
theorem tx_lt (z : Str) : tx (lt z) = z := by
  obtain ⟨⟨l⟩⟩ := z
  rfl
theorem len_tx (l : List Nat) : (tx l).length = l.length := rfl
theorem len_lt (z : Str) : (lt z).length = z.length := by
  obtain ⟨⟨l⟩⟩ := z
  rfl
theorem tx_inj {l m : List Nat} (h : tx l = tx m) : l = m := by
  have e := congrArg lt h
  exact e
theorem cut_take (z : Str) (n : Nat) : cutS z none (some (n : Int)) = tx ((lt z).take n) := by
  unfold cutS tx
  have h0 : HT.sIx z.length 0 none = 0 := rfl
  have h1 : HT.sIx z.length z.length (some (n : Int)) = min n z.length := by
    unfold HT.sIx
    simp only
    split <;> omega
  rw [h0, h1, List.drop_zero, Nat.sub_zero]
  congr 2
  rw [← len_lt z]
  by_cases h : n ≤ (lt z).length
  · rw [Nat.min_eq_left h]
  · rw [Nat.min_eq_right (Nat.le_of_not_le h), List.take_of_length_le (Nat.le_refl _), List.take_of_length_le (Nat.le_of_not_le h)]
/-- the letters behind the sign c -/
def after (b : List Nat) (c : Nat) : List Nat := (b.dropWhile (fun x => decide (x ≠ c))).drop 1
/-- ascending, by the letters b -/
def asc : List Nat → List Nat → Bool
  | _, [] => true
  | b, c :: t => decide (c ∈ b) && asc (after b c) t
theorem asc_nil (b : List Nat) : asc b [] = true := by
  unfold asc
  rfl
theorem asc_cons (b : List Nat) (c : Nat) (t : List Nat) : asc b (c :: t) = (decide (c ∈ b) && asc (after b c) t) := by
  rw [asc]
theorem split_at {b : List Nat} {c : Nat} (h : c ∈ b) : ∃ p q, b = p ++ c :: q ∧ c ∉ p ∧ after b c = q := by
  induction b with
  | nil => cases h
  | cons x r ih =>
    by_cases e : x = c
    · subst e
      refine ⟨[], r, rfl, by simp, ?_⟩
      unfold after
      simp
    · have h' : c ∈ r := by
        rcases List.mem_cons.mp h with z | z
        · exact absurd z.symm e
        · exact z
      obtain ⟨p, q, e1, e2, e3⟩ := ih h'
      refine ⟨x :: p, q, by rw [e1]; rfl, ?_, ?_⟩
      · intro z
        rcases List.mem_cons.mp z with z | z
        · exact e z.symm
        · exact e2 z
      · unfold after at e3 ⊢
        rw [List.dropWhile_cons_of_pos (by simpa using e)]
        exact e3
theorem part_after {b : List Nat} {c : Nat} (h : c ∈ b) : (Txt.partition (tx b) (tx [c])).2.2 = tx (after b c) := by
  obtain ⟨p, q, e1, e2, e3⟩ := split_at h
  have e : tx b = tx p ++ tx [c] ++ tx q := by
    rw [e1]
    show tx (p ++ c :: q) = (⟨(p.toArray ++ [c].toArray) ++ q.toArray⟩ : Str)
    unfold tx
    congr 1
    simp
  rw [e, TL.partition_app (s := c) (S := []) rfl (by show c ∉ p; exact e2), e3]
theorem after_len (b : List Nat) (c : Nat) : (after b c).length ≤ b.length := by
  unfold after
  rw [List.length_drop]
  have := (List.dropWhile_sublist (l := b) (fun x => decide (x ≠ c))).length_le
  omega
/-! ### readings that ask H itself -/
section
variable {X : Cx}
def gTupH (n : Nat) (t : TGs) : TG := fun v σ H Q => ∃ a xs, v = .ref a ∧ H a = some (.tup xs) ∧ xs.length = n ∧ t xs σ H Q
theorem pg_tupH {es : List Expr} {k : Nat} {t : TGs} {n : Nat} (hc : X.calm = true) (h : PGs X es t)
    (hn : (assignEach es X.env).length = n := by rfl) (hst : (assignEach es X.env).findIdx? (·.1) = none := by rfl) : PG X (.Tuple es k pos) (gTupH n t) :=
  ⟨fun pins s σ H v u Q I r hw => (pg_tup hc h hn hst).run pins s σ H v u Q I r (by
    obtain ⟨a, xs, e1, e2, e3, e4⟩ := hw
    exact ⟨a, xs, e1, SqT.of e2, e3, e4⟩)⟩
/-- xs[i] of a list or a tuple -/
def hIxB : R2 := fun x y H Q => ∃ p xs i v, x = .ref p ∧ y = .int i ∧ RowAt H p xs ∧ atI xs i = some v ∧ Q v H
theorem ixHB : IxR X hIxB := by
  intro ve se pins s σ H x y v u Q I rx ry ⟨p, xs, i, w, h1, h2, h3, h4, h5⟩
  rcases h3 with h3 | h3
  · exact ixH ve se pins s σ H x y v u Q I rx ry ⟨p, xs, i, w, h1, h2, h3, h4, h5⟩
  · exact ixHT ve se pins s σ H x y v u Q I rx ry ⟨p, xs, i, w, h1, h2, h3, h4, h5⟩
end
theorem free_no {l : List (Str × NameKind)} (h : l.all (fun y => !decide (y.2 = .free)) = true) : ∀ y ∈ l, y.2 = .free → False := fun y hy e => by
  have z := List.all_eq_true.mp h y hy
  rw [e] at z
  simp at z
theorem sizeLe {n : Nat} (h : n ≤ 1000) : n ≤ sizeLine := Nat.le_of_lt (small1000 h)
theorem gen_same {H H' : Hp} {d : Addr} {o : HO} (n : H d = none) (g : upd H d o = H') : Same H H' := by
  rw [← g]
  exact same_new n
theorem gen_at {H H' : Hp} {d : Addr} {o : HO} (g : upd H d o = H') : H' d = some o := by
  rw [← g]
  exact upd_same
end AK
set_option Elab.async false
set_option linter.all false
set_option maxRecDepth 100000
set_option maxHeartbeats 4000000
namespace AK
open PySem PySem.Spec PyProof.Rows L2
theorem fun_of {K : PySem.W.Frag} {x qual : Str} {st : Stmt} {f : Addr} {fd : FuncData} (F : FunD K x qual (defArgs st) (defBody st) (defScope st) [] [] f fd) : Fun K x qual st f fd := by
  obtain ⟨oc, od, dV, kV, doc, pm, an, cdv, ct, osl, e, lk, hc, hd, _⟩ := F.ex
  rcases hd with ⟨_, rfl⟩ | ⟨z, _⟩
  · exact ⟨⟨oc, od, kV, doc, pm, an, cdv, ct, osl, e, lk, hc⟩, F.kp⟩
  · exact absurd rfl z
theorem funC_of {K : PySem.W.Frag} {x qual : Str} {st : Stmt} {p : Str × Option Str} {fd : FuncData} (F : FunD K x qual (defArgs st) (defBody st) (defScope st) [] [] (He.fAd K p) fd) : FunC K x qual st (He.fAd K p) fd (He.cT K p).1 := by
  obtain ⟨oc, od, kV, doc, pm, an, cdv, ct, osl, e, lk, hc⟩ := (fun_of F).ex
  obtain ⟨c, rfl⟩ := He.codeIn_ref hc
  have z : He.codeOf K p = c := He.codeOf_eq lk (by rw [e])
  rw [show (He.cT K p).1 = c from z]
  exact ⟨oc, od, kV, doc, pm, an, ct, osl, e, lk, hc⟩
/-- the facts of an exception class, asked -/
theorem excB_ok {K : PySem.W.Frag} {C : Addr} (h : excB K C = true) : ExcA K C := by
  obtain ⟨h1, h⟩ := He.ba h
  obtain ⟨h2, h⟩ := He.ba h
  obtain ⟨h3, h⟩ := He.ba h
  obtain ⟨h4, h⟩ := He.ba h
  obtain ⟨h5, h⟩ := He.ba h
  obtain ⟨h6, h⟩ := He.ba h
  obtain ⟨h7, h⟩ := He.ba h
  obtain ⟨h8, h⟩ := He.ba h
  obtain ⟨h9, h⟩ := He.ba h
  obtain ⟨h10, h11⟩ := He.ba h
  exact ⟨He.eqO_ok h1, He.eqO_ok h2, of_decide_eq_true h3, h4, He.eqO_ok h5, He.eqO_ok h6, of_decide_eq_true h7, of_decide_eq_true h8, of_decide_eq_true h9, h10, of_decide_eq_true h11⟩
/-- a class over ValueError with an __init__ of its own -/
theorem ownB_ok {C : Addr} : ∀ {o : Obj}, ownB C o = true → ∃ nm q N bs bm sn sub ab col dd k0 k1 k2 k3 k5, o = excClassObj nm q C N bs bm true sn sub ab col dd k0 k1 k2 k3 k5 "ValueError.__new__" ∧ PySem.HandSPX.refsVE bm = true := by
  intro o h
  unfold ownB at h
  split at h
  · rename_i t dd cd sl
    obtain ⟨h0, h⟩ := He.ba h
    have h0 := of_decide_eq_true h0
    subst h0
    split at h
    · rename_i D bm k0 k1 k2 k3 n k5 hm hs
      try obtain ⟨_, h⟩ := He.ba h
      obtain ⟨h1, h⟩ := He.ba h
      obtain ⟨h2, h⟩ := He.ba h
      obtain ⟨h3, h⟩ := He.ba h
      obtain ⟨h4, h5⟩ := He.ba h
      have h1 := of_decide_eq_true h1
      have h2 := of_decide_eq_true h2
      subst h1 h2
      obtain ⟨nm, bs, mro, ns, qn, hd, sn, sub, ab, col, del⟩ := cd
      dsimp only at hm h3 h4
      subst hm
      have hdel : del = false := by
        cases del with
        | false => rfl
        | true => cases h3
      subst hdel
      have hhd : hd = true := h4
      subst hhd
      have hsl : sl = #[k0, k1, k2, k3, some (.builtin "ValueError.__new__"), k5] := by
        obtain ⟨l⟩ := sl
        simp only at hs
        rw [hs]
      subst hsl
      exact ⟨nm, qn, ns, bs, bm, sn, sub, ab, col, dd, k0, k1, k2, k3, k5, rfl, h5⟩
    · first | (cases h) | (obtain ⟨_, h⟩ := He.ba h; cases h)
  · cases h
theorem oexB_ok {K : PySem.W.Frag} {C : Addr} (h : oexB K C = true) (x : ExcA K C) : OexC K C := by
  obtain ⟨h1, h2⟩ := He.ba h
  cases e : K.lookup C with
  | none =>
    rw [e] at h1
    cases h1
  | some o =>
    rw [e] at h1
    obtain ⟨nm, q, N, bs, bm, sn, sub, ab, col, dd, k0, k1, k2, k3, k5, rfl, hb⟩ := ownB_ok h1
    exact ⟨⟨nm, q, N, bs, bm, sn, sub, ab, col, dd, k0, k1, k2, k3, k5, e, hb⟩, He.eqO_ok h2, x.ex, x.ty, x.kp⟩
theorem Same.tr {G H H' : Hp} (a : Same G H) (b : Same H H') : Same G H' := fun x o e => b x o (a x o e)
end AK
set_option Elab.async false
set_option linter.all false
namespace AK
/-! ### what parities span, in numbers -/
def Top (r k : Nat) : Prop := r.testBit k = true ∧ ∀ j, k < j → r.testBit j = false
theorem top_ex (r : Nat) (h : r ≠ 0) : ∃ k, Top r k := by
  induction r using Nat.strongRecOn with
  | ind r ih =>
    by_cases h2 : r / 2 = 0
    · have e : r = 1 := by omega
      subst e
      refine ⟨0, rfl, fun j hj => ?_⟩
      obtain ⟨j, rfl⟩ : ∃ i, j = i + 1 := ⟨j - 1, by omega⟩
      rw [Nat.testBit_succ, show 1 / 2 = 0 from rfl, Nat.zero_testBit]
    · obtain ⟨k, h3, h4⟩ := ih (r / 2) (by omega) h2
      refine ⟨k + 1, by rw [Nat.testBit_succ]; exact h3, fun j hj => ?_⟩
      obtain ⟨j, rfl⟩ : ∃ i, j = i + 1 := ⟨j - 1, by omega⟩
      rw [Nat.testBit_succ]
      exact h4 j (by omega)
theorem xor_self_r (x r : Nat) : (x ^^^ r) ^^^ r = x := by rw [Nat.xor_assoc, Nat.xor_self, Nat.xor_zero]
theorem lt_bit : ∀ (i x y : Nat), x.testBit i = false → y.testBit i = true → (∀ j, i < j → x.testBit j = y.testBit j) → x < y
  | 0, x, y, h1, h2, h => by
    have e : x / 2 = y / 2 := Nat.eq_of_testBit_eq fun j => by
      rw [← Nat.testBit_succ, ← Nat.testBit_succ]
      exact h _ (by omega)
    rw [Nat.testBit_zero] at h1 h2
    have h1 : ¬ x % 2 = 1 := of_decide_eq_false h1
    have h2 : y % 2 = 1 := of_decide_eq_true h2
    omega
  | i + 1, x, y, h1, h2, h => by
    rw [Nat.testBit_succ] at h1 h2
    have z := lt_bit i (x / 2) (y / 2) h1 h2 fun j hj => by
      rw [← Nat.testBit_succ, ← Nat.testBit_succ]
      exact h _ (by omega)
    omega
def cl (r m : Nat) : Nat := if m ^^^ r < m then m ^^^ r else m
theorem cl_top {r k : Nat} (t : Top r k) (m : Nat) : cl r m = if m.testBit k = true then m ^^^ r else m := by
  unfold cl
  by_cases h : m.testBit k = true
  · rw [if_pos h, if_pos]
    refine lt_bit k _ _ ?_ h fun j hj => ?_
    · rw [Nat.testBit_xor, h, t.1]; rfl
    · rw [Nat.testBit_xor, t.2 j hj, Bool.xor_false]
  · rw [if_neg h, if_neg]
    have h' : m.testBit k = false := by simpa using h
    have z : m < m ^^^ r := by
      refine lt_bit k _ _ h' ?_ fun j hj => ?_
      · rw [Nat.testBit_xor, h', t.1]; rfl
      · rw [Nat.testBit_xor, t.2 j hj, Bool.xor_false]
    omega
theorem cl_or (r m : Nat) : cl r m = m ∨ cl r m = m ^^^ r := by
  unfold cl
  split
  · exact .inr rfl
  · exact .inl rfl
def rem : List Nat → Nat → Nat
  | [], m => m
  | r :: R, m => rem R (cl r m)
def S : List Nat → Nat → Prop
  | [], x => x = 0
  | r :: R, x => S R x ∨ S R (x ^^^ r)
def good : List Nat → Prop
  | [] => True
  | r :: R => ∃ k, Top r k ∧ (∀ q ∈ R, q.testBit k = false) ∧ good R
def clean : List Nat → Nat → Prop
  | [], _ => True
  | r :: R, x => (∀ k, Top r k → x.testBit k = false) ∧ clean R x
theorem rem_keep : ∀ (R : List Nat) (m k : Nat), (∀ q ∈ R, q.testBit k = false) → (rem R m).testBit k = m.testBit k
  | [], _, _, _ => rfl
  | r :: R, m, k, h => by
    have z := rem_keep R (cl r m) k fun q hq => h q (List.mem_cons_of_mem _ hq)
    rw [show rem (r :: R) m = rem R (cl r m) from rfl, z]
    rcases cl_or r m with e | e
    · rw [e]
    · rw [e, Nat.testBit_xor, h r List.mem_cons_self, Bool.xor_false]
theorem S_zero : ∀ R, S R 0
  | [] => rfl
  | _ :: R => .inl (S_zero R)
theorem S_xor : ∀ (R : List Nat) (x y : Nat), S R x → S R y → S R (x ^^^ y)
  | [], x, y, hx, hy => by
    have hx : x = 0 := hx
    have hy : y = 0 := hy
    subst hx; subst hy; rfl
  | r :: R, x, y, hx, hy => by
    rcases hx with hx | hx <;> rcases hy with hy | hy
    · exact .inl (S_xor R x y hx hy)
    · refine .inr ?_
      rw [Nat.xor_assoc]
      exact S_xor R _ _ hx hy
    · refine .inr ?_
      rw [Nat.xor_assoc, Nat.xor_comm y r, ← Nat.xor_assoc]
      exact S_xor R _ _ hx hy
    · refine .inl ?_
      have z := S_xor R _ _ hx hy
      rw [show x ^^^ r ^^^ (y ^^^ r) = x ^^^ y from by rw [Nat.xor_comm y r, ← Nat.xor_assoc, xor_self_r]] at z
      exact z
theorem S_mem : ∀ (R : List Nat) (m : Nat), m ∈ R → S R m
  | r :: R, m, h => by
    rcases List.mem_cons.mp h with e | h
    · refine .inr ?_
      rw [e, Nat.xor_self]
      exact S_zero R
    · exact .inl (S_mem R m h)
theorem S_sub {R T : List Nat} : (∀ m ∈ R, S T m) → ∀ x, S R x → S T x := by
  induction R with
  | nil =>
    intro _ x hx
    rw [show x = 0 from hx]
    exact S_zero T
  | cons r R ih =>
    intro h x hx
    have ih := ih fun m hm => h m (List.mem_cons_of_mem _ hm)
    rcases hx with hx | hx
    · exact ih x hx
    · have z := S_xor T _ _ (ih _ hx) (h r List.mem_cons_self)
      rw [xor_self_r] at z
      exact z
theorem rem_S : ∀ (R : List Nat) (m : Nat), S R (m ^^^ rem R m)
  | [], m => by show m ^^^ m = 0; exact Nat.xor_self m
  | r :: R, m => by
    have z := rem_S R (cl r m)
    rw [show rem (r :: R) m = rem R (cl r m) from rfl]
    rcases cl_or r m with e | e
    · rw [e] at z ⊢
      exact .inl z
    · refine .inr ?_
      rw [e] at z ⊢
      rw [show m ^^^ rem R (m ^^^ r) ^^^ r = m ^^^ r ^^^ rem R (m ^^^ r) from by rw [Nat.xor_assoc, Nat.xor_comm (rem R (m ^^^ r)) r, ← Nat.xor_assoc]]
      exact z
theorem clean_rem : ∀ (R : List Nat) (m : Nat), good R → clean R (rem R m)
  | [], _, _ => trivial
  | r :: R, m, ⟨k, t, hk, g⟩ => by
    refine ⟨fun j tj => ?_, clean_rem R _ g⟩
    have ej : j = k := by
      rcases Nat.lt_trichotomy j k with h | h | h
      · have := tj.2 k h
        rw [t.1] at this
        exact absurd this (by decide)
      · exact h
      · have := t.2 j h
        rw [tj.1] at this
        exact absurd this (by decide)
    subst ej
    rw [show rem (r :: R) m = rem R (cl r m) from rfl, rem_keep R _ _ hk, cl_top t]
    split
    · rename_i h
      rw [Nat.testBit_xor, h, t.1]; rfl
    · rename_i h
      simpa using h
theorem S_bit : ∀ (R : List Nat) (k x : Nat), (∀ q ∈ R, q.testBit k = false) → S R x → x.testBit k = false
  | [], k, x, _, hx => by
    rw [show x = 0 from hx, Nat.zero_testBit]
  | r :: R, k, x, h, hx => by
    have h' : ∀ q ∈ R, q.testBit k = false := fun q hq => h q (List.mem_cons_of_mem _ hq)
    rcases hx with hx | hx
    · exact S_bit R k x h' hx
    · have z := S_bit R k _ h' hx
      rw [Nat.testBit_xor, h r List.mem_cons_self, Bool.xor_false] at z
      exact z
theorem S_clean : ∀ (R : List Nat) (x : Nat), good R → S R x → clean R x → x = 0
  | [], _, _, h, _ => h
  | r :: R, x, ⟨k, t, hk, g⟩, hx, hc => by
    rcases hx with hx | hx
    · exact S_clean R x g hx hc.2
    · have z := S_bit R k _ hk hx
      rw [Nat.testBit_xor, hc.1 k t, t.1] at z
      exact absurd z (by decide)
theorem rem_zero {R : List Nat} (g : good R) (m : Nat) : rem R m = 0 ↔ S R m := by
  constructor
  · intro e
    have z := rem_S R m
    rw [e, Nat.xor_zero] at z
    exact z
  · intro h
    refine S_clean R _ g ?_ (clean_rem R m g)
    have z := S_xor R _ _ h (rem_S R m)
    rw [← Nat.xor_assoc, Nat.xor_self, Nat.zero_xor] at z
    exact z
theorem S_snoc : ∀ (R : List Nat) (r x : Nat), S (R ++ [r]) x ↔ S R x ∨ S R (x ^^^ r)
  | [], r, x => Iff.rfl
  | q :: R, r, x => by
    show S (R ++ [r]) x ∨ S (R ++ [r]) (x ^^^ q) ↔ (S R x ∨ S R (x ^^^ q)) ∨ (S R (x ^^^ r) ∨ S R (x ^^^ r ^^^ q))
    rw [S_snoc R r x, S_snoc R r (x ^^^ q), show x ^^^ q ^^^ r = x ^^^ r ^^^ q from by rw [Nat.xor_assoc, Nat.xor_comm q r, ← Nat.xor_assoc]]
    constructor
    · rintro ((h | h) | (h | h))
      · exact .inl (.inl h)
      · exact .inr (.inl h)
      · exact .inl (.inr h)
      · exact .inr (.inr h)
    · rintro ((h | h) | (h | h))
      · exact .inl (.inl h)
      · exact .inr (.inl h)
      · exact .inl (.inr h)
      · exact .inr (.inr h)
theorem good_snoc : ∀ (R : List Nat) (r : Nat), good R → clean R r → r ≠ 0 → good (R ++ [r])
  | [], r, _, _, h => by
    obtain ⟨k, t⟩ := top_ex r h
    exact ⟨k, t, fun q hq => (List.not_mem_nil hq).elim, trivial⟩
  | q :: R, r, ⟨k, t, hk, g⟩, hc, h => by
    refine ⟨k, t, fun p hp => ?_, good_snoc R r g hc.2 h⟩
    rcases List.mem_append.mp hp with hp | hp
    · exact hk p hp
    · rw [List.mem_singleton.mp hp]
      exact hc.1 k t
/-- one message more -/
def sp (R : List Nat) (m : Nat) : List Nat := if rem R m = 0 then R else R ++ [rem R m]
theorem good_sp {R : List Nat} (g : good R) (m : Nat) : good (sp R m) := by
  unfold sp
  split
  · exact g
  · rename_i h
    exact good_snoc R _ g (clean_rem R m g) h
theorem S_sp {R : List Nat} (g : good R) (m x : Nat) : S (sp R m) x ↔ S R x ∨ S R (x ^^^ m) := by
  unfold sp
  split
  · rename_i h
    have hm := (rem_zero g m).mp h
    constructor
    · exact .inl
    · rintro (h | h)
      · exact h
      · have z := S_xor R _ _ h hm
        rw [xor_self_r] at z
        exact z
  · rw [S_snoc]
    have e : ∀ a b c : Nat, a ^^^ b ^^^ (c ^^^ b) = a ^^^ c := fun a b c => by rw [Nat.xor_comm c b, ← Nat.xor_assoc, xor_self_r]
    constructor
    · rintro (h | h)
      · exact .inl h
      · refine .inr ?_
        have z := S_xor R _ _ h (rem_S R m)
        rw [e] at z
        exact z
    · rintro (h | h)
      · exact .inl h
      · refine .inr ?_
        have z := S_xor R _ _ h (rem_S R m)
        rw [show x ^^^ m ^^^ (m ^^^ rem R m) = x ^^^ rem R m from by rw [← Nat.xor_assoc, xor_self_r]] at z
        exact z
def spn (ms R : List Nat) : List Nat := ms.foldl sp R
theorem good_spn : ∀ (ms R : List Nat), good R → good (spn ms R)
  | [], _, g => g
  | m :: ms, R, g => good_spn ms _ (good_sp g m)
theorem S_app : ∀ (A B : List Nat) (x : Nat), S (A ++ B) x ↔ ∃ y, S A y ∧ S B (x ^^^ y)
  | [], B, x => by
    constructor
    · intro h
      exact ⟨0, rfl, by rw [Nat.xor_zero]; exact h⟩
    · rintro ⟨y, e, h⟩
      rw [show y = 0 from e, Nat.xor_zero] at h
      exact h
  | a :: A, B, x => by
    show S (A ++ B) x ∨ S (A ++ B) (x ^^^ a) ↔ _
    rw [S_app A B x, S_app A B (x ^^^ a)]
    constructor
    · rintro (⟨y, h1, h2⟩ | ⟨y, h1, h2⟩)
      · exact ⟨y, .inl h1, h2⟩
      · refine ⟨y ^^^ a, .inr (by rw [xor_self_r]; exact h1), ?_⟩
        rw [Nat.xor_comm y a, ← Nat.xor_assoc]
        exact h2
    · rintro ⟨y, h1 | h1, h2⟩
      · exact .inl ⟨y, h1, h2⟩
      · refine .inr ⟨y ^^^ a, h1, ?_⟩
        rw [show x ^^^ a ^^^ (y ^^^ a) = x ^^^ y from by rw [Nat.xor_comm y a, ← Nat.xor_assoc, xor_self_r]]
        exact h2
theorem S_comm (A B : List Nat) (x : Nat) : S (A ++ B) x ↔ S (B ++ A) x := by
  rw [S_app, S_app]
  constructor
  · rintro ⟨y, h1, h2⟩
    exact ⟨x ^^^ y, h2, by rw [← Nat.xor_assoc, Nat.xor_self, Nat.zero_xor]; exact h1⟩
  · rintro ⟨y, h1, h2⟩
    exact ⟨x ^^^ y, h2, by rw [← Nat.xor_assoc, Nat.xor_self, Nat.zero_xor]; exact h1⟩
theorem S_left {A : List Nat} (B : List Nat) {x : Nat} (h : S A x) : S (A ++ B) x := (S_app A B x).mpr ⟨x, h, by rw [Nat.xor_self]; exact S_zero B⟩
theorem S_right (A : List Nat) {B : List Nat} {x : Nat} (h : S B x) : S (A ++ B) x := (S_comm A B x).mpr (S_left A h)
theorem S_spn : ∀ (ms R : List Nat) (x : Nat), good R → (S (spn ms R) x ↔ S (R ++ ms) x)
  | [], R, x, _ => by rw [List.append_nil]; exact Iff.rfl
  | m :: ms, R, x, g => by
    show S (spn ms (sp R m)) x ↔ _
    rw [S_spn ms _ x (good_sp g m), S_app, S_app]
    constructor
    · rintro ⟨y, h1, h2⟩
      rcases (S_sp g m y).mp h1 with h | h
      · exact ⟨y, h, .inl h2⟩
      · refine ⟨y ^^^ m, h, .inr ?_⟩
        rw [show x ^^^ (y ^^^ m) ^^^ m = x ^^^ y from by rw [← Nat.xor_assoc, xor_self_r]]
        exact h2
    · rintro ⟨y, h1, h2 | h2⟩
      · exact ⟨y, (S_sp g m y).mpr (.inl h1), h2⟩
      · refine ⟨y ^^^ m, (S_sp g m _).mpr (.inr (by rw [xor_self_r]; exact h1)), ?_⟩
        rw [← Nat.xor_assoc]
        exact h2
theorem S_spn0 (ms : List Nat) (x : Nat) : S (spn ms []) x ↔ S ms x := S_spn ms [] x trivial
/-! ### all sums, as a list -/
def dstep (F : List Nat) (m : Nat) : List Nat := if m ∈ F then F else F ++ F.map (· ^^^ m)
def der (ms : List Nat) : List Nat := ms.foldl dstep [0]
structure Rep (R F : List Nat) : Prop where
  g : good R
  m : ∀ x, x ∈ F ↔ S R x
  n : F.Nodup
  l : F.length = 2 ^ R.length
theorem rep0 : Rep [] [0] := ⟨trivial, fun x => by simp [S], by simp, rfl⟩
theorem rep_step {R F : List Nat} (h : Rep R F) (m : Nat) : Rep (sp R m) (dstep F m) := by
  refine ⟨good_sp h.g m, fun x => ?_, ?_, ?_⟩
  · rw [S_sp h.g, ← h.m, ← h.m]
    unfold dstep
    split
    · rename_i hm
      constructor
      · exact .inl
      · rintro (h1 | h1)
        · exact h1
        · rw [h.m] at h1 hm ⊢
          have z := S_xor R _ _ h1 hm
          rw [xor_self_r] at z
          exact z
    · rw [List.mem_append, List.mem_map]
      constructor
      · rintro (h1 | ⟨y, h1, rfl⟩)
        · exact .inl h1
        · exact .inr (by rw [xor_self_r]; exact h1)
      · rintro (h1 | h1)
        · exact .inl h1
        · exact .inr ⟨_, h1, xor_self_r x m⟩
  · unfold dstep
    split
    · exact h.n
    · rename_i hm
      refine List.nodup_append.mpr ⟨h.n, ?_, ?_⟩
      · refine List.pairwise_map.mpr (h.n.imp fun {a b} hab e => hab ?_)
        have z := congrArg (· ^^^ m) e
        simp only [xor_self_r] at z
        exact z
      · rintro a ha b hb rfl
        obtain ⟨y, hy, e⟩ := List.mem_map.mp hb
        refine hm ((h.m m).mpr ?_)
        have z := S_xor R _ _ ((h.m y).mp hy) ((h.m a).mp ha)
        rw [← e, ← Nat.xor_assoc, Nat.xor_self, Nat.zero_xor] at z
        exact z
  · unfold dstep sp
    by_cases hm : m ∈ F
    · rw [if_pos hm, if_pos ((rem_zero h.g m).mpr ((h.m m).mp hm))]
      exact h.l
    · rw [if_neg hm, if_neg fun e => hm ((h.m m).mpr ((rem_zero h.g m).mp e)), List.length_append, List.length_map, List.length_append, h.l, List.length_singleton, Nat.pow_succ]
      omega
theorem rep_fold : ∀ (ms : List Nat) {R F : List Nat}, Rep R F → Rep (spn ms R) (ms.foldl dstep F)
  | [], _, _, h => h
  | m :: ms, _, _, h => rep_fold ms (rep_step h m)
theorem rep (ms : List Nat) : Rep (spn ms []) (der ms) := rep_fold ms rep0
theorem der_mem (ms : List Nat) (x : Nat) : x ∈ der ms ↔ S ms x := ((rep ms).m x).trans (S_spn0 ms x)
/-! ### how many -/
theorem nodup_le : ∀ {F G : List Nat}, F.Nodup → (∀ x ∈ F, x ∈ G) → F.length ≤ G.length
  | [], G, _, _ => Nat.zero_le _
  | x :: F, G, n, h => by
    have hx := h x List.mem_cons_self
    have n' := List.nodup_cons.mp n
    have z := nodup_le (G := G.erase x) n'.2 fun y hy => by
      refine (List.mem_erase_of_ne (show y ≠ x from fun e => n'.1 (e ▸ hy))).mpr (h y (List.mem_cons_of_mem _ hy))
    rw [List.length_erase_of_mem hx] at z
    have p := List.length_pos_of_mem hx
    simp only [List.length_cons]
    omega
theorem nodup_all {F G : List Nat} (n : F.Nodup) (h : ∀ x ∈ F, x ∈ G) (l : G.length ≤ F.length) : ∀ x ∈ G, x ∈ F := by
  intro x hx
  by_cases hf : x ∈ F
  · exact hf
  · have z := nodup_le (F := x :: F) (G := G) (List.nodup_cons.mpr ⟨hf, n⟩) fun y hy => by
      rcases List.mem_cons.mp hy with e | hy
      · rw [e]
        exact hx
      · exact h y hy
    simp only [List.length_cons] at z
    omega
theorem rep_le {R F T G : List Nat} (h : Rep R F) (k : Rep T G) (s : ∀ x, S R x → S T x) : R.length ≤ T.length := by
  have z := nodup_le h.n fun x hx => (k.m x).mpr (s x ((h.m x).mp hx))
  rw [h.l, k.l] at z
  exact (Nat.pow_le_pow_iff_right (by decide)).mp z
theorem rep_eq {R F T G : List Nat} (h : Rep R F) (k : Rep T G) (s : ∀ x, S R x → S T x) (e : T.length ≤ R.length) : ∀ x, S T x → S R x := by
  intro x hx
  refine (h.m x).mp (nodup_all h.n (fun x hx => (k.m x).mpr (s x ((h.m x).mp hx))) ?_ x ((k.m x).mpr hx))
  rw [h.l, k.l]
  exact Nat.pow_le_pow_right (by decide) e
def rank (ms : List Nat) : Nat := (spn ms []).length
theorem rank_le {A B : List Nat} (s : ∀ x, S A x → S B x) : rank A ≤ rank B := rep_le (rep A) (rep B) fun x h => (S_spn0 B x).mpr (s x ((S_spn0 A x).mp h))
theorem rank_eq {A B : List Nat} (s : ∀ x, S A x → S B x) (e : rank B ≤ rank A) : ∀ x, S B x → S A x := fun x h =>
  (S_spn0 A x).mp (rep_eq (rep A) (rep B) (fun x h => (S_spn0 B x).mpr (s x ((S_spn0 A x).mp h))) e x ((S_spn0 B x).mpr h))
theorem rank_comm (A B : List Nat) : rank (A ++ B) = rank (B ++ A) := Nat.le_antisymm (rank_le fun x h => (S_comm A B x).mp h) (rank_le fun x h => (S_comm A B x).mpr h)
theorem spn_app (A B R : List Nat) : spn (A ++ B) R = spn B (spn A R) := List.foldl_append
theorem spn_le : ∀ (B C D : List Nat), good C → good D → (∀ x, S C x → S D x) → (spn B D).length + C.length ≤ (spn B C).length + D.length
  | [], C, D, _, _, _ => by show D.length + C.length ≤ C.length + D.length; omega
  | m :: B, C, D, gc, gd, s => by
    have ih := spn_le B (sp C m) (sp D m) (good_sp gc m) (good_sp gd m) fun x h => by
      rw [S_sp gd]
      rcases (S_sp gc m x).mp h with h | h
      · exact .inl (s _ h)
      · exact .inr (s _ h)
    show (spn B (sp D m)).length + _ ≤ (spn B (sp C m)).length + _
    have e : (sp D m).length + C.length ≤ (sp C m).length + D.length := by
      unfold sp
      by_cases h : rem C m = 0
      · have h2 : rem D m = 0 := (rem_zero gd m).mpr (s m ((rem_zero gc m).mp h))
        rw [if_pos h, if_pos h2]
        omega
      · rw [if_neg h]
        split
        · rw [List.length_append]; omega
        · rw [List.length_append, List.length_append, List.length_singleton, List.length_singleton]; omega
    omega
theorem rank_add (A B : List Nat) : rank (A ++ B) ≤ rank A + rank B := by
  have z := spn_le B [] (spn A []) trivial (good_spn A [] trivial) fun x h => by
    rw [show x = 0 from h]
    exact S_zero _
  unfold rank
  rw [spn_app]
  simp only [List.length_nil] at z
  omega
theorem spn_len : ∀ (ms R : List Nat), (spn ms R).length ≤ R.length + ms.length
  | [], R => by show R.length ≤ R.length + 0; omega
  | m :: ms, R => by
    have z := spn_len ms (sp R m)
    show (spn ms (sp R m)).length ≤ _
    have e : (sp R m).length ≤ R.length + 1 := by
      unfold sp
      split
      · omega
      · rw [List.length_append, List.length_singleton]; omega
    simp only [List.length_cons]
    omega
theorem spn_ge : ∀ (ms R : List Nat), R.length ≤ (spn ms R).length
  | [], R => Nat.le_refl _
  | m :: ms, R => by
    have z := spn_ge ms (sp R m)
    show _ ≤ (spn ms (sp R m)).length
    have e : R.length ≤ (sp R m).length := by
      unfold sp
      split
      · omega
      · rw [List.length_append]; omega
    omega
theorem rank_len (ms : List Nat) : rank ms ≤ ms.length := by
  have z := spn_len ms []
  unfold rank
  simp only [List.length_nil] at z
  omega
/-! ### the basis -/
def bas : List Nat → List Nat → Nat → List Nat
  | [], _, _ => []
  | m :: ms, R, i => if rem R m = 0 then bas ms R (i + 1) else i :: bas ms (R ++ [rem R m]) (i + 1)
def cho : List Nat → List Nat → List Nat
  | [], _ => []
  | m :: ms, R => if rem R m = 0 then cho ms R else m :: cho ms (R ++ [rem R m])
theorem bas_len : ∀ (ms R : List Nat) (i : Nat), (bas ms R i).length = (cho ms R).length
  | [], _, _ => rfl
  | m :: ms, R, i => by
    unfold bas cho
    split
    · exact bas_len ms _ _
    · rw [List.length_cons, List.length_cons, bas_len ms]
theorem cho_len : ∀ (ms R : List Nat), (cho ms R).length + R.length = (spn ms R).length
  | [], R => by show 0 + R.length = R.length; omega
  | m :: ms, R => by
    have z := cho_len ms (sp R m)
    show _ = (spn ms (sp R m)).length
    unfold cho
    unfold sp at z ⊢
    split
    · rename_i h
      rw [if_pos h] at z
      exact z
    · rename_i h
      rw [if_neg h] at z
      rw [← z, List.length_append, List.length_cons, List.length_singleton]
      omega
theorem cho_spn : ∀ (ms R : List Nat), spn (cho ms R) R = spn ms R
  | [], R => rfl
  | m :: ms, R => by
    show _ = spn ms (sp R m)
    unfold cho
    split
    · rename_i h
      rw [cho_spn ms R]
      unfold sp
      rw [if_pos h]
    · rename_i h
      show spn (cho ms _) (sp R m) = _
      have e : sp R m = R ++ [rem R m] := if_neg h
      rw [e]
      exact cho_spn ms _
theorem bas_mem : ∀ (ms R : List Nat) (i k : Nat), k ∈ bas ms R i → i ≤ k ∧ k < i + ms.length
  | [], _, _, k, h => (List.not_mem_nil h).elim
  | m :: ms, R, i, k, h => by
    unfold bas at h
    simp only [List.length_cons]
    split at h
    · have z := bas_mem ms _ _ k h
      omega
    · rcases List.mem_cons.mp h with e | h
      · omega
      · have z := bas_mem ms _ _ k h
        omega
theorem bas_all : ∀ (ms R : List Nat) (i : Nat), (∀ k, i ≤ k → k < i + ms.length → k ∈ bas ms R i) → (bas ms R i).length = ms.length
  | [], _, _, _ => rfl
  | m :: ms, R, i, h => by
    have h0 := h i (Nat.le_refl _) (by simp only [List.length_cons]; omega)
    unfold bas at h h0 ⊢
    split at h0
    · have z := bas_mem ms _ _ i h0
      omega
    · rename_i hr
      rw [if_neg hr] at h ⊢
      rw [List.length_cons, List.length_cons, bas_all ms _ (i + 1) fun k h1 h2 => ?_]
      rcases List.mem_cons.mp (h k (by omega) (by simp only [List.length_cons]; omega)) with e | h
      · omega
      · exact h
theorem bas_full : ∀ (ms R : List Nat) (i : Nat), (bas ms R i).length = ms.length → ∀ k, i ≤ k → k < i + ms.length → k ∈ bas ms R i
  | [], _, i, _, k, h1, h2 => by simp only [List.length_nil] at h2; omega
  | m :: ms, R, i, h, k, h1, h2 => by
    unfold bas at h ⊢
    simp only [List.length_cons] at h h2
    split
    · rename_i hr
      rw [if_pos hr, bas_len] at h
      have z := cho_len ms R
      have y := spn_len ms R
      omega
    · rename_i hr
      rw [if_neg hr, List.length_cons] at h
      by_cases e : k = i
      · rw [e]
        exact List.mem_cons_self
      · exact List.mem_cons_of_mem _ (bas_full ms _ (i + 1) (by omega) k (by omega) (by omega))
/-- the messages at the basis -/
theorem bas_cho : ∀ (ms R pre : List Nat), (bas ms R pre.length).map (fun k => (pre ++ ms)[k]?) = (cho ms R).map some
  | [], _, _ => rfl
  | m :: ms, R, pre => by
    have ih : ∀ T, (bas ms T (pre.length + 1)).map (fun k => (pre ++ m :: ms)[k]?) = (cho ms T).map some := fun T => by
      have z := bas_cho ms T (pre ++ [m])
      rw [List.length_append, List.length_singleton, List.append_assoc, List.singleton_append] at z
      exact z
    unfold bas cho
    split
    · exact ih _
    · rw [List.map_cons, List.map_cons, ih, List.getElem?_append_right (Nat.le_refl _), Nat.sub_self]
      rfl
/-- what can be derived from all the others -/
def oth (ms : List Nat) (i : Nat) : List Nat := ms.take i ++ ms.drop (i + 1)
def rid (ms : List Nat) (i : Nat) : Bool := decide (rem (spn (oth ms i) []) (ms.getD i 0) = 0)
def redu (ms : List Nat) : List Nat := (List.range ms.length).filter fun i => !decide (i ∈ (bas ms [] 0).filter fun k => !rid ms k)
theorem cho_rank (ms : List Nat) : (cho ms []).length = rank ms := by
  have z := cho_len ms []
  simp only [List.length_nil] at z
  exact z
theorem rank_cho (ms : List Nat) : rank (cho ms []) = (cho ms []).length := by
  unfold rank
  rw [cho_spn, cho_rank]
  rfl
theorem S_cho (ms : List Nat) (x : Nat) : S (cho ms []) x ↔ S ms x := by
  rw [← S_spn0, ← S_spn0 ms, cho_spn]
theorem oth_S {ms : List Nat} {i : Nat} (hi : i < ms.length) (h : S (oth ms i) (ms.getD i 0)) (x : Nat) (hx : S ms x) : S (oth ms i) x := by
  refine S_sub (fun m hm => ?_) x hx
  rw [← List.take_append_drop i ms, List.drop_eq_getElem_cons hi] at hm
  rcases List.mem_append.mp hm with hm | hm
  · exact S_left _ (S_mem _ _ hm)
  · rcases List.mem_cons.mp hm with e | hm
    · rw [List.getD_eq_getElem?_getD, List.getElem?_eq_getElem hi] at h
      rw [e]
      exact h
    · exact S_right _ (S_mem _ _ hm)
theorem redu_free {ms : List Nat} (h : rank ms = ms.length) : redu ms = [] := by
  refine List.filter_eq_nil_iff.mpr fun i hi => ?_
  have hi' := List.mem_range.mp hi
  have hb : i ∈ bas ms [] 0 := bas_full ms [] 0 (by rw [bas_len, cho_rank, h]) i (Nat.zero_le _) (by omega)
  have hr : rid ms i = false := by
    unfold rid
    refine decide_eq_false fun e => ?_
    have h1 := (S_spn0 _ _).mp ((rem_zero (good_spn (oth ms i) [] trivial) _).mp e)
    have h2 := rank_le (oth_S hi' h1)
    have h3 := rank_len (oth ms i)
    unfold oth at h3 h2
    rw [List.length_append, List.length_take, List.length_drop] at h3
    omega
  rw [decide_eq_true (List.mem_filter.mpr ⟨hb, by rw [hr]; rfl⟩)]
  decide
theorem redu_nil {ms : List Nat} (h : redu ms = []) : ms.length = rank ms := by
  have z := List.filter_eq_nil_iff.mp h
  rw [← cho_rank, ← bas_len ms [] 0]
  refine (bas_all ms [] 0 fun k _ hk => ?_).symm
  have y := z k (List.mem_range.mpr (by omega))
  have y : k ∈ (bas ms [] 0).filter fun k => !rid ms k := by
    simp only [Bool.not_eq_true', decide_eq_false_iff_not, Decidable.not_not] at y
    exact y
  exact (List.mem_filter.mp y).1
/-- is_equivalent -/
theorem equiv (A B : List Nat) : (rank A = rank B ∧ rank B = (spn (spn B []) (spn A [])).length) ↔ ∀ x, S A x ↔ S B x := by
  have hA := rep A
  have hB := rep B
  have hC : Rep (spn (spn B []) (spn A [])) _ := rep_fold (spn B []) (rep A)
  have sC : ∀ x, S (spn (spn B []) (spn A [])) x ↔ S (spn A [] ++ spn B []) x := fun x => S_spn _ _ x hA.g
  constructor
  · rintro ⟨e1, e2⟩ x
    have a := rep_eq hA hC (fun x h => (sC x).mpr (S_left _ h)) (by unfold rank at e1 e2; omega)
    have b := rep_eq hB hC (fun x h => (sC x).mpr (S_right _ h)) (by unfold rank at e1 e2; omega)
    constructor
    · intro h
      exact (S_spn0 B x).mp (b x ((sC x).mpr (S_left _ ((S_spn0 A x).mpr h))))
    · intro h
      exact (S_spn0 A x).mp (a x ((sC x).mpr (S_right _ ((S_spn0 B x).mpr h))))
  · intro h
    have e1 : rank A = rank B := Nat.le_antisymm (rank_le fun x => (h x).mp) (rank_le fun x => (h x).mpr)
    refine ⟨e1, ?_⟩
    have e3 : (spn (spn B []) (spn A [])).length ≤ (spn B []).length := rep_le hC hB fun x hx => by
      obtain ⟨y, h1, h2⟩ := (S_app _ _ _).mp ((sC x).mp hx)
      have h1 := (S_spn0 B y).mpr ((h y).mp ((S_spn0 A y).mp h1))
      have z := S_xor _ _ _ h2 h1
      rw [xor_self_r] at z
      exact z
    have e4 := spn_ge (spn B []) (spn A [])
    unfold rank at e1 ⊢
    omega
theorem der_lt {ms : List Nat} (h : ∀ m ∈ ms, m < 64) : ∀ x ∈ der ms, x < 64 := by
  suffices z : ∀ (ms F : List Nat), (∀ m ∈ ms, m < 64) → (∀ x ∈ F, x < 64) → ∀ x ∈ ms.foldl dstep F, x < 64 from z ms [0] h (by simp)
  intro ms
  induction ms with
  | nil => exact fun F _ hF => hF
  | cons m ms ih =>
    intro F hm hF
    refine ih _ (fun x hx => hm x (List.mem_cons_of_mem _ hx)) fun x hx => ?_
    unfold dstep at hx
    split at hx
    · exact hF x hx
    · rcases List.mem_append.mp hx with hx | hx
      · exact hF x hx
      · obtain ⟨y, hy, rfl⟩ := List.mem_map.mp hx
        exact Nat.xor_lt_two_pow (n := 6) (hF y hy) (hm m List.mem_cons_self)
theorem der_len {ms : List Nat} (h : ∀ m ∈ ms, m < 64) : (der ms).length ≤ 64 := by
  have z := nodup_le (rep ms).n (G := List.range 64) fun x hx => List.mem_range.mpr (der_lt h x hx)
  rw [List.length_range] at z
  exact z
theorem spn_take {ms : List Nat} {i m : Nat} (R : List Nat) (h : ms[i]? = some m) : spn (ms.take (i + 1)) R = sp (spn (ms.take i) R) m := by
  rw [List.take_add_one, h]
  show (List.take i ms ++ [m]).foldl sp R = _
  rw [List.foldl_append]
  rfl
theorem bas_drop {ms : List Nat} {i m : Nat} (R : List Nat) (h : ms[i]? = some m) : bas (ms.drop i) R i = if rem R m = 0 then bas (ms.drop (i + 1)) R (i + 1) else i :: bas (ms.drop (i + 1)) (R ++ [rem R m]) (i + 1) := by
  obtain ⟨hi, e⟩ := List.getElem?_eq_some_iff.mp h
  rw [← e, List.drop_eq_getElem_cons hi]
  rfl
theorem cho_sub : ∀ (ms R : List Nat), ∀ m ∈ cho ms R, m ∈ ms
  | [], _, _, h => h
  | k :: ms, R, m, h => by
    unfold cho at h
    split at h
    · exact List.mem_cons_of_mem _ (cho_sub ms _ m h)
    · rcases List.mem_cons.mp h with e | h
      · rw [e]; exact List.mem_cons_self
      · exact List.mem_cons_of_mem _ (cho_sub ms _ m h)
theorem bas_cho_at {ms : List Nat} {i k : Nat} (h : (bas ms [] 0)[i]? = some k) : ∃ m, (cho ms [])[i]? = some m ∧ ms[k]? = some m := by
  have z := bas_cho ms [] []
  have y := congrArg (·[i]?) z
  simp only [List.getElem?_map] at y
  rw [show (bas ms [] ([] : List Nat).length)[i]? = some k from h] at y
  cases e : (cho ms [])[i]? with
  | none => rw [e] at y; cases y
  | some m => rw [e] at y; exact ⟨m, rfl, Option.some.inj y⟩
end AK
set_option Elab.async false
set_option linter.all false
namespace AK
/-! ### parities under assignments -/
def par8 (n : Nat) : Bool := n.testBit 0 ^^ (n.testBit 1 ^^ (n.testBit 2 ^^ (n.testBit 3 ^^ (n.testBit 4 ^^ (n.testBit 5 ^^ (n.testBit 6 ^^ n.testBit 7))))))
def od (m a : Nat) : Bool := par8 (m &&& a)
theorem mix (a b c d : Bool) : ((a ^^ b) ^^ (c ^^ d)) = ((a ^^ c) ^^ (b ^^ d)) := by cases a <;> cases b <;> cases c <;> cases d <;> rfl
theorem par8_xor (x y : Nat) : par8 (x ^^^ y) = (par8 x ^^ par8 y) := by
  unfold par8
  simp only [Nat.testBit_xor]
  generalize x.testBit 0 = x0, x.testBit 1 = x1, x.testBit 2 = x2, x.testBit 3 = x3, x.testBit 4 = x4, x.testBit 5 = x5, x.testBit 6 = x6, x.testBit 7 = x7
  generalize y.testBit 0 = y0, y.testBit 1 = y1, y.testBit 2 = y2, y.testBit 3 = y3, y.testBit 4 = y4, y.testBit 5 = y5, y.testBit 6 = y6, y.testBit 7 = y7
  rw [mix x6 y6, mix x5 y5, mix x4 y4, mix x3 y3, mix x2 y2, mix x1 y1, mix x0 y0]
theorem od_l (m n a : Nat) : od (m ^^^ n) a = (od m a ^^ od n a) := by
  unfold od
  rw [Nat.and_xor_distrib_right, par8_xor]
theorem od_r (m a b : Nat) : od m (a ^^^ b) = (od m a ^^ od m b) := by
  unfold od
  rw [Nat.and_xor_distrib_left, par8_xor]
theorem od_0 (a : Nat) : od 0 a = false := by
  unfold od
  rw [Nat.zero_and]
  rfl
theorem od_z (m : Nat) : od m 0 = false := by
  unfold od
  rw [Nat.and_zero]
  rfl
theorem od_pow_all : (List.range 256).all (fun m => (List.range 8).all fun k => decide (od m (2 ^ k) = m.testBit k)) = true := by decide +kernel
theorem od_pow {m k : Nat} (hm : m < 256) (hk : k < 8) : od m (2 ^ k) = m.testBit k :=
  of_decide_eq_true (List.all_eq_true.mp (List.all_eq_true.mp od_pow_all m (List.mem_range.mpr hm)) k (List.mem_range.mpr hk))
def stepB (c : Nat) : Bool := c == 0 || (decide (c &&& (c - 1) < c) && (par8 (c &&& (c - 1)) == !par8 c))
theorem stepB_all : (List.range 256).all stepB = true := by decide +kernel
theorem step_of {c : Nat} (h : c < 256) (h0 : c ≠ 0) : c &&& (c - 1) < c ∧ par8 (c &&& (c - 1)) = !par8 c := by
  have z := List.all_eq_true.mp stepB_all c (List.mem_range.mpr h)
  unfold stepB at z
  rw [show (c == 0) = false from beq_eq_false_iff_ne.mpr h0, Bool.false_or, Bool.and_eq_true] at z
  exact ⟨of_decide_eq_true z.1, eq_of_beq z.2⟩
theorem od_S : ∀ (R : List Nat) (a x : Nat), (∀ r ∈ R, od r a = false) → S R x → od x a = false
  | [], a, x, _, hx => by
    rw [show x = 0 from hx, od_0]
  | r :: R, a, x, h, hx => by
    have h' : ∀ r ∈ R, od r a = false := fun r hr => h r (List.mem_cons_of_mem _ hr)
    rcases hx with hx | hx
    · exact od_S R a x h' hx
    · have z := od_S R a _ h' hx
      rw [od_l, h r List.mem_cons_self, Bool.xor_false] at z
      exact z
theorem bit_lt {q k v : Nat} (hq : q < 2 ^ v) (h : q.testBit k = true) : k < v := by
  by_cases hk : k < v
  · exact hk
  · have := Nat.testBit_lt_two_pow (Nat.lt_of_lt_of_le hq (Nat.pow_le_pow_right (by decide) (Nat.le_of_not_lt hk)))
    rw [h] at this
    exact absurd this (by decide)
theorem le256 {v x : Nat} (hv : v ≤ 8) (h : x < 2 ^ v) : x < 256 := Nat.lt_of_lt_of_le h (Nat.pow_le_pow_right (n := 2) (by decide) hv)
/-- what is new is told apart by an assignment under which all rows are even -/
theorem sep {v : Nat} (hv : v ≤ 8) : ∀ (R : List Nat) (q : Nat), good R → clean R q → q ≠ 0 → (∀ r ∈ R, r < 2 ^ v) → q < 2 ^ v → ∃ a, a < 2 ^ v ∧ od q a = true ∧ ∀ r ∈ R, od r a = false
  | [], q, _, _, h0, _, hq => by
    obtain ⟨k, t⟩ := top_ex q h0
    have hk := bit_lt hq t.1
    exact ⟨2 ^ k, Nat.pow_lt_pow_right (by decide) hk, by rw [od_pow (le256 hv hq) (by omega)]; exact t.1, fun r hr => (List.not_mem_nil hr).elim⟩
  | r :: R, q, ⟨k, t, hk, g⟩, hc, h0, hR, hq => by
    obtain ⟨a, ha, h1, h2⟩ := sep hv R q g hc.2 h0 (fun x hx => hR x (List.mem_cons_of_mem _ hx)) hq
    have hr := hR r List.mem_cons_self
    have k8 := bit_lt hr t.1
    cases e : od r a with
    | false => exact ⟨a, ha, h1, fun x hx => (List.mem_cons.mp hx).elim (fun z => by rw [z]; exact e) (h2 x)⟩
    | true =>
      have p2 : (2 : Nat) ^ k < 2 ^ v := Nat.pow_lt_pow_right (by decide) k8
      refine ⟨a ^^^ 2 ^ k, Nat.xor_lt_two_pow ha p2, ?_, fun x hx => ?_⟩
      · rw [od_r, h1, od_pow (le256 hv hq) (by omega), hc.1 k t]; rfl
      · rcases List.mem_cons.mp hx with z | hx
        · rw [z, od_r, e, od_pow (le256 hv hr) (by omega), t.1]; rfl
        · rw [od_r, h2 x hx, od_pow (le256 hv (hR x (List.mem_cons_of_mem _ hx))) (by omega), hk x hx]; rfl
/-! ### how many assignments give what is told -/
def agS (A : List (Nat × Bool)) (p : Nat × Bool) : List (Nat × Bool) := A ++ A.map fun r => (r.1 ^^^ p.1, r.2 != p.2)
def ag (L : List (Nat × Bool)) : List (Nat × Bool) := L.foldl agS [(0, false)]
def keep (X : List Nat) (p : Nat × Bool) : List Nat := X.filter fun a => od p.1 a == p.2
structure Cnt (v : Nat) (A : List (Nat × Bool)) (R X : List Nat) : Prop where
  g : good R
  s : ∀ x, S R x ↔ ∃ b, (x, b) ∈ A
  o : ∀ x b, (x, b) ∈ A → ∀ a ∈ X, od x a = b
  c : ∀ x b y d, (x, b) ∈ A → (y, d) ∈ A → (x ^^^ y, b != d) ∈ A
  b : ∀ r ∈ R, r < 2 ^ v
  n : X.Nodup
  l : ∀ a ∈ X, a < 2 ^ v
  f : ∀ a ∈ X, ∀ a0, a0 < 2 ^ v → (∀ r ∈ R, od r a0 = false) → a ^^^ a0 ∈ X
  k : (0, true) ∉ A → R.length ≤ v ∧ X.length = 2 ^ (v - R.length)
theorem cnt0 (v : Nat) : Cnt v [(0, false)] [] (List.range (2 ^ v)) := by
  refine ⟨trivial, fun x => ?_, ?_, ?_, fun r hr => (List.not_mem_nil hr).elim, List.nodup_range, fun a ha => List.mem_range.mp ha, fun a ha a0 h0 _ => List.mem_range.mpr (Nat.xor_lt_two_pow (List.mem_range.mp ha) h0), fun _ => ⟨Nat.zero_le _, by rw [List.length_range]; rfl⟩⟩
  · constructor
    · intro h
      rw [show x = 0 from h]
      exact ⟨false, List.mem_singleton.mpr rfl⟩
    · rintro ⟨b, h⟩
      exact (Prod.mk.inj (List.mem_singleton.mp h)).1
  · intro x b h a _
    obtain ⟨rfl, rfl⟩ := Prod.mk.inj (List.mem_singleton.mp h)
    exact od_0 a
  · intro x b y d h1 h2
    obtain ⟨rfl, rfl⟩ := Prod.mk.inj (List.mem_singleton.mp h1)
    obtain ⟨rfl, rfl⟩ := Prod.mk.inj (List.mem_singleton.mp h2)
    exact List.mem_singleton.mpr rfl
theorem agS_mem {A : List (Nat × Bool)} {p : Nat × Bool} {x : Nat} {b : Bool} : (x, b) ∈ agS A p ↔ (x, b) ∈ A ∨ (x ^^^ p.1, b != p.2) ∈ A := by
  unfold agS
  rw [List.mem_append, List.mem_map]
  constructor
  · rintro (h | ⟨⟨y, d⟩, h, e⟩)
    · exact .inl h
    · obtain ⟨rfl, rfl⟩ := Prod.mk.inj e
      refine .inr ?_
      rw [xor_self_r]
      have : ((d != p.2) != p.2) = d := by cases d <;> cases p.2 <;> rfl
      rw [this]
      exact h
  · rintro (h | h)
    · exact .inl h
    · refine .inr ⟨_, h, ?_⟩
      have : ((b != p.2) != p.2) = b := by cases b <;> cases p.2 <;> rfl
      simp only [xor_self_r, this]
theorem half {X : List Nat} (n : X.Nodup) {P : Nat → Bool} {a0 : Nat} (hf : ∀ a ∈ X, a ^^^ a0 ∈ X) (hp : ∀ a, P (a ^^^ a0) = !P a) : 2 * (X.filter P).length = X.length := by
  have one : ∀ Q : Nat → Bool, (∀ a, Q (a ^^^ a0) = !Q a) → (X.filter Q).length ≤ (X.filter fun a => !Q a).length := fun Q hq => by
    have z := nodup_le (F := (X.filter Q).map (· ^^^ a0)) (G := X.filter fun a => !Q a) (List.pairwise_map.mpr ((n.filter _).imp fun {a b} hab e => hab (by
      have z := congrArg (· ^^^ a0) e
      simp only [xor_self_r] at z
      exact z))) fun x hx => by
        obtain ⟨y, hy, rfl⟩ := List.mem_map.mp hx
        obtain ⟨h1, h2⟩ := List.mem_filter.mp hy
        exact List.mem_filter.mpr ⟨hf y h1, by rw [hq, h2]; rfl⟩
    rw [List.length_map] at z
    exact z
  have a1 := one P hp
  have a2 := one (fun a => !P a) fun a => by rw [hp]
  have e : (fun a => !!P a) = P := funext fun a => Bool.not_not _
  rw [e] at a2
  have a3 : X.length = (X.filter P).length + (X.filter fun a => !P a).length := by
    have z := List.length_eq_countP_add_countP P (l := X)
    rw [List.countP_eq_length_filter, List.countP_eq_length_filter] at z
    rw [z]
    congr 3
    exact funext fun a => by cases P a <;> rfl
  omega
theorem cnt_step {v : Nat} (hv : v ≤ 8) {A : List (Nat × Bool)} {R X : List Nat} (h : Cnt v A R X) (p : Nat × Bool) (hp : p.1 < 2 ^ v) : Cnt v (agS A p) (sp R p.1) (keep X p) := by
  obtain ⟨m, t⟩ := p
  have memR : ∀ r ∈ R, r ∈ sp R m := fun r hr => by
    unfold sp
    split
    · exact hr
    · exact List.mem_append_left _ hr
  have g' := good_sp h.g m
  have mS : S (sp R m) m := (S_sp h.g m m).mpr (.inr (by rw [Nat.xor_self]; exact S_zero R))
  have remlt : rem R m < 2 ^ v := by
    have h1 := rem_S R m
    have h2 : ∀ (R : List Nat) (x : Nat), (∀ r ∈ R, r < 2 ^ v) → S R x → x < 2 ^ v := by
      intro R
      induction R with
      | nil => intro x _ hx; rw [show x = 0 from hx]; exact Nat.two_pow_pos v
      | cons r R ih =>
        intro x hR hx
        rcases hx with hx | hx
        · exact ih x (fun r hr => hR r (List.mem_cons_of_mem _ hr)) hx
        · have z := Nat.xor_lt_two_pow (ih _ (fun r hr => hR r (List.mem_cons_of_mem _ hr)) hx) (hR r List.mem_cons_self)
          rw [xor_self_r] at z
          exact z
    have z := Nat.xor_lt_two_pow hp (h2 R _ h.b h1)
    rw [← Nat.xor_assoc, Nat.xor_self, Nat.zero_xor] at z
    exact z
  refine ⟨g', fun x => ?_, ?_, ?_, ?_, h.n.filter _, fun a ha => h.l a (List.mem_filter.mp ha).1, ?_, ?_⟩
  · rw [S_sp h.g, h.s, h.s]
    constructor
    · rintro (⟨b, hb⟩ | ⟨b, hb⟩)
      · exact ⟨b, agS_mem.mpr (.inl hb)⟩
      · refine ⟨b != t, agS_mem.mpr (.inr ?_)⟩
        have : ((b != t) != t) = b := by cases b <;> cases t <;> rfl
        rw [this]
        exact hb
    · rintro ⟨b, hb⟩
      rcases agS_mem.mp hb with hb | hb
      · exact .inl ⟨b, hb⟩
      · exact .inr ⟨_, hb⟩
  · intro x b hb a ha
    obtain ⟨a1, a2⟩ := List.mem_filter.mp ha
    rcases agS_mem.mp hb with hb | hb
    · exact h.o x b hb a a1
    · have z := h.o _ _ hb a a1
      have e : od m a = t := eq_of_beq a2
      rw [od_l, e] at z
      have y : ∀ o b t : Bool, (o ^^ t) = (b != t) → o = b := by decide
      exact y _ _ _ z
  · intro x b y d h1 h2
    rw [agS_mem] at h1 h2 ⊢
    rcases h1 with h1 | h1 <;> rcases h2 with h2 | h2
    · exact .inl (h.c _ _ _ _ h1 h2)
    · refine .inr ?_
      have z := h.c _ _ _ _ h1 h2
      rw [← Nat.xor_assoc] at z
      rw [show ((b != d) != t) = (b != (d != t)) by cases b <;> cases d <;> cases t <;> rfl]
      exact z
    · refine .inr ?_
      have z := h.c _ _ _ _ h1 h2
      rw [show x ^^^ m ^^^ y = x ^^^ y ^^^ m from by rw [Nat.xor_assoc, Nat.xor_comm m y, ← Nat.xor_assoc]] at z
      rw [show ((b != d) != t) = ((b != t) != d) by cases b <;> cases d <;> cases t <;> rfl]
      exact z
    · refine .inl ?_
      have z := h.c _ _ _ _ h1 h2
      rw [show x ^^^ m ^^^ (y ^^^ m) = x ^^^ y from by rw [Nat.xor_comm y m, ← Nat.xor_assoc, xor_self_r]] at z
      rw [show (b != d) = ((b != t) != (d != t)) by cases b <;> cases d <;> cases t <;> rfl]
      exact z
  · intro r hr
    unfold sp at hr
    split at hr
    · exact h.b r hr
    · rcases List.mem_append.mp hr with hr | hr
      · exact h.b r hr
      · rw [List.mem_singleton.mp hr]; exact remlt
  · intro a ha a0 h0 ho
    obtain ⟨a1, a2⟩ := List.mem_filter.mp ha
    refine List.mem_filter.mpr ⟨h.f a a1 a0 h0 fun r hr => ho r (memR r hr), ?_⟩
    have e : od m a0 = false := od_S (sp R m) a0 m ho mS
    show (od m (a ^^^ a0) == t) = true
    rw [od_r, e, Bool.xor_false]
    exact a2
  · intro hn
    have hn' : (0, true) ∉ A := fun z => hn (agS_mem.mpr (.inl z))
    obtain ⟨k1, k2⟩ := h.k hn'
    by_cases hm : S R m
    · obtain ⟨b, hb⟩ := (h.s m).mp hm
      have hbt : b = t := by
        refine Classical.byContradiction fun hne => hn (agS_mem.mpr (.inr ?_))
        rw [Nat.zero_xor]
        have : (true != t) = b := by revert hne; cases b <;> cases t <;> decide
        rw [show (true != (m, t).2) = b from this]
        exact hb
      have e1 : sp R m = R := if_pos ((rem_zero h.g m).mpr hm)
      have e2 : keep X (m, t) = X := List.filter_eq_self.mpr fun a ha => by
        show (od m a == t) = true
        rw [h.o m b hb a ha, hbt]
        exact beq_self_eq_true t
      show (sp R m).length ≤ v ∧ _ = 2 ^ (v - (sp R m).length)
      rw [e1, e2]
      exact ⟨k1, k2⟩
    · have hq : rem R m ≠ 0 := fun z => hm ((rem_zero h.g m).mp z)
      have e1 : sp R m = R ++ [rem R m] := if_neg hq
      obtain ⟨a0, h0, h1, h2⟩ := sep hv R (rem R m) h.g (clean_rem R m h.g) hq h.b remlt
      have hm0 : od m a0 = true := by
        have z := od_S R a0 _ h2 (rem_S R m)
        rw [od_l, h1] at z
        revert z
        cases od m a0 <;> decide
      have z := half (P := fun a => od m a == t) h.n (fun a ha => h.f a ha a0 h0 h2) fun a => by
        show (od m (a ^^^ a0) == t) = !(od m a == t)
        rw [od_r, hm0]
        cases od m a <;> cases t <;> rfl
      have z : 2 * (keep X (m, t)).length = X.length := z
      show (sp R m).length ≤ v ∧ _ = 2 ^ (v - (sp R m).length)
      rw [e1, List.length_append, List.length_singleton]
      rw [k2] at z
      have : v - R.length ≠ 0 := fun e => by
        rw [e] at z
        omega
      obtain ⟨d, hd⟩ : ∃ d, v - R.length = d + 1 := ⟨v - R.length - 1, by omega⟩
      rw [hd, Nat.pow_succ] at z
      refine ⟨by omega, ?_⟩
      rw [show v - (R.length + 1) = d from by omega]
      omega
theorem cnt_fold {v : Nat} (hv : v ≤ 8) : ∀ (L : List (Nat × Bool)) {A : List (Nat × Bool)} {R X : List Nat}, Cnt v A R X → (∀ p ∈ L, p.1 < 2 ^ v) → Cnt v (L.foldl agS A) (spn (L.map (·.1)) R) (L.foldl keep X)
  | [], _, _, _, h, _ => h
  | p :: L, _, _, _, h, hp => cnt_fold hv L (cnt_step hv h p (hp p List.mem_cons_self)) fun q hq => hp q (List.mem_cons_of_mem _ hq)
theorem keep_fold : ∀ (L : List (Nat × Bool)) (X : List Nat), L.foldl keep X = X.filter fun a => L.all fun p => od p.1 a == p.2
  | [], X => (List.filter_eq_self.mpr fun _ _ => rfl).symm
  | p :: L, X => by
    show L.foldl keep (keep X p) = _
    rw [keep_fold L]
    unfold keep
    rw [List.filter_filter]
    refine List.filter_congr fun a _ => ?_
    rw [List.all_cons, Bool.and_comm]
/-- the assignments that fit: none, or two to the power of the variables less the rank -/
theorem fit_len {v : Nat} (hv : v ≤ 8) (L : List (Nat × Bool)) (h : ∀ p ∈ L, p.1 < 2 ^ v) :
    ((List.range (2 ^ v)).filter fun a => L.all fun p => od p.1 a == p.2).length = if (0, true) ∈ ag L then 0 else 2 ^ (v - rank (L.map (·.1))) := by
  have z := cnt_fold hv L (cnt0 v) h
  rw [← keep_fold]
  by_cases c : (0, true) ∈ ag L
  · rw [if_pos c, List.length_eq_zero_iff]
    refine List.eq_nil_iff_forall_not_mem.mpr fun a ha => ?_
    have y := z.o 0 true c a ha
    rw [od_0] at y
    cases y
  · rw [if_neg c]
    exact (z.k c).2
theorem rank_v {v : Nat} (hv : v ≤ 8) (L : List (Nat × Bool)) (h : ∀ p ∈ L, p.1 < 2 ^ v) (c : (0, true) ∉ ag L) : rank (L.map (·.1)) ≤ v := (((cnt_fold hv L (cnt0 v) h)).k c).1
theorem od_spn (ms : List Nat) (a : Nat) : (∀ r ∈ spn ms [], od r a = false) ↔ ∀ m ∈ ms, od m a = false := by
  constructor
  · intro h m hm
    exact od_S _ a m h ((S_spn0 ms m).mpr (S_mem ms m hm))
  · intro h r hr
    exact od_S ms a r h ((S_spn0 ms r).mp (S_mem _ r hr))
theorem S_lt {v : Nat} : ∀ (R : List Nat) (x : Nat), (∀ r ∈ R, r < 2 ^ v) → S R x → x < 2 ^ v
  | [], x, _, hx => by rw [show x = 0 from hx]; exact Nat.two_pow_pos v
  | r :: R, x, h, hx => by
    have h' : ∀ r ∈ R, r < 2 ^ v := fun y hy => h y (List.mem_cons_of_mem _ hy)
    rcases hx with hx | hx
    · exact S_lt R x h' hx
    · have z := Nat.xor_lt_two_pow (S_lt R _ h' hx) (h r List.mem_cons_self)
      rw [xor_self_r] at z
      exact z
theorem spn_lt {ms : List Nat} (h : ∀ m ∈ ms, m < 256) : ∀ r ∈ spn ms [], r < 256 := fun r hr =>
  S_lt (v := 8) ms r h ((S_spn0 ms r).mp (S_mem _ r hr))
theorem any_spn (ms : List Nat) (a : Nat) : ((spn ms []).map fun r => od r a).any id = !(ms.all fun k => !od k a) := by
  have z := od_spn ms a
  cases h : ms.all fun k => !od k a with
  | true =>
    have h1 : ∀ m ∈ ms, od m a = false := fun m hm => by simpa using List.all_eq_true.mp h m hm
    rw [Bool.not_true, List.any_eq_false]
    intro b hb
    obtain ⟨r, hr, rfl⟩ := List.mem_map.mp hb
    rw [z.mpr h1 r hr]
    decide
  | false =>
    rw [Bool.not_false, List.any_eq_true]
    refine Classical.byContradiction fun hno => ?_
    have h2 : ∀ r ∈ spn ms [], od r a = false := fun r hr => by
      cases e : od r a with
      | false => rfl
      | true => exact absurd ⟨_, List.mem_map.mpr ⟨r, hr, rfl⟩, by rw [e]; rfl⟩ hno
    have h3 := z.mp h2
    have : ms.all (fun k => !od k a) = true := List.all_eq_true.mpr fun m hm => by rw [h3 m hm]; rfl
    rw [h] at this
    cases this
end AK
set_option Elab.async false
set_option linter.all false
namespace AK
/-! ### the fewest of some numbers that add up to one -/
def xr (L : List Nat) : Nat := L.foldr (· ^^^ ·) 0
theorem xr_cons (a : Nat) (L : List Nat) : xr (a :: L) = a ^^^ xr L := rfl
theorem xr_app : ∀ A B : List Nat, xr (A ++ B) = xr A ^^^ xr B
  | [], B => (Nat.zero_xor _).symm
  | a :: A, B => by
    rw [List.cons_append, xr_cons, xr_cons, xr_app A B, Nat.xor_assoc]
theorem xr_erase : ∀ {L : List Nat} {m : Nat}, m ∈ L → xr (L.erase m) = xr L ^^^ m
  | a :: L, m, h => by
    by_cases e : a = m
    · subst e
      rw [List.erase_cons_head, xr_cons, Nat.xor_comm a, xor_self_r]
    · have h' : m ∈ L := (List.mem_cons.mp h).resolve_left fun z => e z.symm
      rw [List.erase_cons_tail (by simpa using e), xr_cons, xr_cons, xr_erase h', Nat.xor_assoc]
/-- d of ms (any of them, as often as one likes) add up to x, and no fewer do -/
def dist (ms : List Nat) (x d : Nat) : Prop := (∃ L : List Nat, (∀ m ∈ L, m ∈ ms) ∧ xr L = x ∧ L.length = d) ∧ ∀ L : List Nat, (∀ m ∈ L, m ∈ ms) → xr L = x → d ≤ L.length
theorem dist_fun {ms : List Nat} {x d e : Nat} (h : dist ms x d) (k : dist ms x e) : d = e := by
  obtain ⟨⟨L, l1, l2, l3⟩, h2⟩ := h
  obtain ⟨⟨M, m1, m2, m3⟩, k2⟩ := k
  have a := h2 M m1 m2
  have b := k2 L l1 l2
  omega
theorem dist_ex {ms : List Nat} : ∀ (n x : Nat) (L : List Nat), L.length ≤ n → (∀ m ∈ L, m ∈ ms) → xr L = x → ∃ d, d ≤ n ∧ dist ms x d
  | 0, x, L, hl, h1, h2 => ⟨0, Nat.le_refl _, ⟨L, h1, h2, by omega⟩, fun _ _ _ => Nat.zero_le _⟩
  | n + 1, x, L, hl, h1, h2 => by
    by_cases c : ∃ M : List Nat, M.length ≤ n ∧ (∀ m ∈ M, m ∈ ms) ∧ xr M = x
    · obtain ⟨M, a, b, e⟩ := c
      obtain ⟨d, hd, z⟩ := dist_ex n x M a b e
      exact ⟨d, by omega, z⟩
    · refine ⟨L.length, hl, ⟨L, h1, h2, rfl⟩, fun M m1 m2 => ?_⟩
      refine Nat.le_of_not_lt fun hlt => c ⟨M, by omega, m1, m2⟩
theorem dist0 (ms : List Nat) : dist ms 0 0 := ⟨⟨[], fun _ h => (List.not_mem_nil h).elim, rfl, rfl⟩, fun _ _ _ => Nat.zero_le _⟩
theorem dist_zero {ms : List Nat} {x : Nat} (h : dist ms x 0) : x = 0 := by
  obtain ⟨⟨L, _, l2, l3⟩, _⟩ := h
  rw [List.length_eq_zero_iff.mp l3] at l2
  exact l2.symm
/-- one number further: at most one more -/
theorem dist_step {ms : List Nat} {x d m : Nat} (h : dist ms x d) (hm : m ∈ ms) : ∃ e, e ≤ d + 1 ∧ dist ms (x ^^^ m) e := by
  obtain ⟨⟨L, l1, l2, l3⟩, _⟩ := h
  refine dist_ex (d + 1) _ (m :: L) (by simp only [List.length_cons]; omega) (fun k hk => ?_) (by rw [xr_cons, l2, Nat.xor_comm])
  rcases List.mem_cons.mp hk with e | hk
  · rw [e]; exact hm
  · exact l1 k hk
/-- a number of a shortest row is one with which one fewer is left -/
theorem dist_in {ms : List Nat} {x d m : Nat} {L : List Nat} (h : dist ms x d) (l1 : ∀ k ∈ L, k ∈ ms) (l2 : xr L = x) (l3 : L.length = d) (hm : m ∈ L) : ∃ e, e + 1 = d ∧ dist ms (x ^^^ m) e := by
  have hp := List.length_pos_of_mem hm
  have r1 : ∀ k ∈ L.erase m, k ∈ ms := fun k hk => l1 k (List.mem_of_mem_erase hk)
  have r2 : xr (L.erase m) = x ^^^ m := by rw [xr_erase hm, l2]
  have r3 := List.length_erase_of_mem hm
  obtain ⟨e, he, hd⟩ := dist_ex _ _ (L.erase m) (Nat.le_refl _) r1 r2
  obtain ⟨f, hf, hfd⟩ := dist_step hd (l1 m hm)
  rw [xor_self_r] at hfd
  have := dist_fun h hfd
  exact ⟨e, by omega, hd⟩
/-! ### taking what fits, from the first one on -/
/-- one by one: whether the number fits (D: how many are needed) -/
def grd (D : Nat → Nat) : List Nat → Nat → Nat → List Nat
  | [], _, _ => []
  | m :: ms, i, r => if D (r ^^^ m) < D r then i :: grd D ms (i + 1) (r ^^^ m) else grd D ms (i + 1) r
/-- the numbers at some places -/
def at_ (ms : List Nat) (I : List Nat) : List Nat := I.map fun i => ms.getD i 0
def ascI : Nat → Nat → List Nat → Prop
  | _, _, [] => True
  | i, n, j :: J => i ≤ j ∧ j < n ∧ ascI (j + 1) n J
theorem ascI_mono : ∀ {i k n : Nat} {J : List Nat}, k ≤ i → ascI i n J → ascI k n J
  | _, _, _, [], _, _ => trivial
  | _, _, _, _ :: _, h, ⟨h1, h2, h3⟩ => ⟨Nat.le_trans h h1, h2, h3⟩
theorem ascI_lt : ∀ {i n : Nat} {J : List Nat}, ascI i n J → ∀ j ∈ J, i ≤ j ∧ j < n
  | _, _, [], _, j, hj => (List.not_mem_nil hj).elim
  | _, _, k :: J, ⟨h1, h2, h3⟩, j, hj => by
    rcases List.mem_cons.mp hj with e | hj
    · rw [e]; exact ⟨h1, h2⟩
    · have := ascI_lt h3 j hj
      omega
theorem at_mem {ms : List Nat} {I : List Nat} (h : ∀ i ∈ I, i < ms.length) : ∀ m ∈ at_ ms I, m ∈ ms := fun m hm => by
  obtain ⟨i, hi, rfl⟩ := List.mem_map.mp hm
  rw [List.getD_eq_getElem?_getD, List.getElem?_eq_getElem (h i hi)]
  exact List.getElem_mem _
/-- lexicographically not behind -/
def lexLe : List Nat → List Nat → Prop
  | [], _ => True
  | _ :: _, [] => False
  | a :: A, b :: B => a < b ∨ (a = b ∧ lexLe A B)
section
variable {ms : List Nat} {D : Nat → Nat}
theorem drop_getD {i m : Nat} {T : List Nat} (h : ms.drop i = m :: T) : ms.getD i 0 = m ∧ i < ms.length ∧ ms.drop (i + 1) = T := by
  have hi : i < ms.length := by
    refine Nat.lt_of_not_le fun z => ?_
    rw [List.drop_eq_nil_of_le z] at h
    cases h
  rw [List.drop_eq_getElem_cons hi] at h
  have z := List.cons.inj h
  refine ⟨?_, hi, z.2⟩
  rw [List.getD_eq_getElem?_getD, List.getElem?_eq_getElem hi]
  exact z.1
/-- of what adds up to r and is as short as can be, what grd takes is the first -/
theorem grd_first : ∀ (T : List Nat) (i r : Nat), ms.drop i = T → (∀ x, (∃ d, dist ms x d) → dist ms x (D x)) → dist ms r (D r) → ∀ J, ascI i ms.length J → xr (at_ ms J) = r → J.length = D r → lexLe (grd D T i r) J
  | [], _, _, _, _, _, _, _, _, _ => trivial
  | m :: T, i, r, hT, hD, hr, J, hJ, hx, hl => by
    obtain ⟨e1, e2, e3⟩ := drop_getD hT
    have hmem : m ∈ ms := List.mem_of_mem_drop (i := i) (by rw [hT]; exact List.mem_cons_self)
    obtain ⟨f, hf, hfd⟩ := dist_step hr hmem
    have hf2 := hD _ ⟨f, hfd⟩
    have start : ∀ J', J = i :: J' → D (r ^^^ m) + 1 = D r ∧ xr (at_ ms J') = r ^^^ m ∧ J'.length = D (r ^^^ m) ∧ ascI (i + 1) ms.length J' := fun J' e => by
      subst e
      have a1 : at_ ms (i :: J') = m :: at_ ms J' := by
        show ms.getD i 0 :: _ = _
        rw [e1]
        rfl
      have l1 := at_mem (ms := ms) (I := i :: J') fun j hj => (ascI_lt hJ j hj).2
      rw [a1] at l1 hx
      obtain ⟨g, hg, hgd⟩ := dist_in hr l1 hx (by simp only [List.length_cons, at_, List.length_map] at hl ⊢; exact hl) List.mem_cons_self
      have := dist_fun hgd hf2
      rw [xr_cons] at hx
      refine ⟨by omega, ?_, ?_, hJ.2.2⟩
      · rw [← hx, Nat.xor_comm m, xor_self_r]
      · simp only [List.length_cons] at hl
        omega
    unfold grd
    split
    · rename_i hfit
      match J, hJ, hl, start with
      | [], _, hl, _ => simp only [List.length_nil] at hl; omega
      | j :: J', hJ, hl, start =>
        by_cases e : j = i
        · subst e
          obtain ⟨s1, s2, s3, s4⟩ := start J' rfl
          exact .inr ⟨rfl, grd_first T _ _ e3 hD hf2 J' s4 s2 s3⟩
        · exact .inl (by have := hJ.1; omega)
    · rename_i hfit
      match J, hJ, hl, hx, start with
      | [], hJ, hl, hx, _ => exact grd_first T _ _ e3 hD hr [] trivial hx hl
      | j :: J', hJ, hl, hx, start =>
        by_cases e : j = i
        · subst e
          have := (start J' rfl).1
          omega
        · exact grd_first T _ _ e3 hD hr (j :: J') ⟨by have := hJ.1; omega, hJ.2.1, hJ.2.2⟩ hx hl
/-- no shortest row has one that was gone by -/
def past (ms : List Nat) (i r : Nat) : Prop := ∀ L : List Nat, (∀ m ∈ L, m ∈ ms) → xr L = r → dist ms r L.length → ∀ m ∈ L, m ∉ ms.take i
theorem grd_all : ∀ (T : List Nat) (i r : Nat), ms.drop i = T → (∀ x, (∃ d, dist ms x d) → dist ms x (D x)) → dist ms r (D r) → past ms i r →
    ascI i ms.length (grd D T i r) ∧ xr (at_ ms (grd D T i r)) = r ∧ (grd D T i r).length = D r
  | [], i, r, hT, _, hr, hp => by
    obtain ⟨⟨L, l1, l2, l3⟩, _⟩ := id hr
    have hle : ms.length ≤ i := by
      have := congrArg List.length hT
      rw [List.length_drop, List.length_nil] at this
      omega
    have hL : L = [] := by
      refine List.eq_nil_iff_forall_not_mem.mpr fun m hm => ?_
      have z := hp L l1 l2 (by rw [l3]; exact hr) m hm
      rw [List.take_of_length_le hle] at z
      exact z (l1 m hm)
    rw [hL] at l2 l3
    exact ⟨trivial, l2, l3⟩
  | m :: T, i, r, hT, hD, hr, hp => by
    obtain ⟨e1, e2, e3⟩ := drop_getD hT
    have hmem : m ∈ ms := List.mem_of_mem_drop (i := i) (by rw [hT]; exact List.mem_cons_self)
    obtain ⟨f, hf, hfd⟩ := dist_step hr hmem
    have hf2 := hD _ ⟨f, hfd⟩
    have tk : ∀ k, k ∈ ms.take (i + 1) ↔ k ∈ ms.take i ∨ k = m := fun k => by
      rw [List.take_add_one, List.mem_append]
      have : ms[i]? = some m := by
        rw [List.getD_eq_getElem?_getD, List.getElem?_eq_getElem e2] at e1
        rw [List.getElem?_eq_getElem e2]
        exact congrArg some e1
      rw [this]
      simp
    obtain ⟨g, hg, hgd⟩ := dist_step hf2 hmem
    rw [xor_self_r] at hgd
    have hgr := dist_fun hgd hr
    unfold grd
    split
    · rename_i hfit
      have p' : past ms (i + 1) (r ^^^ m) := fun L l1 l2 l3 k hk hk2 => by
        have ld := dist_fun l3 hf2
        rcases (tk k).mp hk2 with h | h
        · refine hp (m :: L) (fun x hx => ?_) (by rw [xr_cons, l2, Nat.xor_comm m, xor_self_r]) ?_ k (List.mem_cons_of_mem _ hk) h
          · rcases List.mem_cons.mp hx with e | hx
            · rw [e]; exact hmem
            · exact l1 x hx
          · have : (m :: L).length = D r := by
              simp only [List.length_cons]
              omega
            rw [this]
            exact hr
        · subst h
          obtain ⟨q, hq, hqd⟩ := dist_in l3 l1 l2 rfl hk
          rw [xor_self_r] at hqd
          have := dist_fun hqd hr
          omega
      obtain ⟨a1, a2, a3⟩ := grd_all T _ _ e3 hD hf2 p'
      refine ⟨⟨Nat.le_refl _, e2, a1⟩, ?_, ?_⟩
      · show xr (ms.getD i 0 :: at_ ms _) = r
        rw [e1, xr_cons, a2, Nat.xor_comm r, ← Nat.xor_assoc, Nat.xor_self, Nat.zero_xor]
      · simp only [List.length_cons]
        omega
    · rename_i hfit
      have p' : past ms (i + 1) r := fun L l1 l2 l3 k hk hk2 => by
        rcases (tk k).mp hk2 with h | h
        · exact hp L l1 l2 l3 k hk h
        · subst h
          obtain ⟨q, hq, hqd⟩ := dist_in l3 l1 l2 rfl hk
          have a := dist_fun hqd hf2
          have b := dist_fun l3 hr
          omega
      obtain ⟨a1, a2, a3⟩ := grd_all T _ _ e3 hD hr p'
      exact ⟨ascI_mono (Nat.le_succ i) a1, a2, a3⟩
theorem past0 (r : Nat) : past ms 0 r := fun _ _ _ _ _ _ h => by
  rw [List.take_zero] at h
  exact List.not_mem_nil h
end
/-! ### all levels, one after the other -/
/-- what is known of how many are needed, when d levels are done: ws has each number with as many -/
def known (ms : List Nat) (ws : List (Nat × Nat)) (d : Nat) : Prop := ∀ x e, (x, e) ∈ ws ↔ dist ms x e ∧ e ≤ d
/-- within the next level: those found of it are F -/
structure half_ (ms : List Nat) (ws : List (Nat × Nat)) (F : List Nat) (d : Nat) : Prop where
  ok : ∀ x e, (x, e) ∈ ws → dist ms x e ∧ e ≤ d + 1
  all : ∀ x e, dist ms x e → e ≤ d → (x, e) ∈ ws
  new : ∀ x, (x, d + 1) ∈ ws ↔ x ∈ F
  nd : (ws.map (·.1)).Nodup
theorem half_step {ms : List Nat} {ws : List (Nat × Nat)} {F : List Nat} {d s m : Nat} (h : half_ ms ws F d) (hs : dist ms s d) (hm : m ∈ ms) (hn : ∀ e, (s ^^^ m, e) ∉ ws) : half_ ms (ws ++ [(s ^^^ m, d + 1)]) (F ++ [s ^^^ m]) d := by
  obtain ⟨e, he, hd⟩ := dist_step hs hm
  have hed : e = d + 1 := by
    refine Nat.le_antisymm he (Nat.lt_of_not_le fun z => hn e (h.all _ _ hd z))
  subst hed
  refine ⟨fun x e hx => ?_, fun x e h1 h2 => List.mem_append_left _ (h.all x e h1 h2), fun x => ?_, ?_⟩
  · rcases List.mem_append.mp hx with hx | hx
    · exact h.ok x e hx
    · obtain ⟨rfl, rfl⟩ := Prod.mk.inj (List.mem_singleton.mp hx)
      exact ⟨hd, Nat.le_refl _⟩
  · rw [List.mem_append, List.mem_append, h.new, List.mem_singleton, List.mem_singleton]
    constructor
    · rintro (h | h)
      · exact .inl h
      · exact .inr (Prod.mk.inj h).1
    · rintro (h | h)
      · exact .inl h
      · exact .inr (by rw [h])
  · rw [List.map_append, List.nodup_append]
    refine ⟨h.nd, by simp, fun a ha b hb e => ?_⟩
    obtain ⟨⟨x, q⟩, hx, rfl⟩ := List.mem_map.mp ha
    have hb' : b = s ^^^ m := by simpa using hb
    exact hn q (by rw [← hb', ← e]; exact hx)
theorem half_start {ms : List Nat} {ws : List (Nat × Nat)} {d : Nat} (h : known ms ws d) (n : (ws.map (·.1)).Nodup) : half_ ms ws [] d :=
  ⟨fun x e hx => ⟨((h x e).mp hx).1, by have := ((h x e).mp hx).2; omega⟩, fun x e h1 h2 => (h x e).mpr ⟨h1, h2⟩, fun x => ⟨fun hx => absurd ((h _ _).mp hx).2 (by omega), fun hx => (List.not_mem_nil hx).elim⟩, n⟩
/-- when all of the last level with all numbers have been looked at, the next one is whole -/
theorem half_end {ms : List Nat} {ws : List (Nat × Nat)} {F R : List Nat} {d : Nat} (h : half_ ms ws F d) (hR : ∀ x, dist ms x d → x ∈ R) (hall : ∀ s ∈ R, ∀ m ∈ ms, ∃ e, (s ^^^ m, e) ∈ ws) : known ms ws (d + 1) := by
  intro x e
  refine ⟨h.ok x e, fun ⟨h1, h2⟩ => ?_⟩
  by_cases c : e ≤ d
  · exact h.all x e h1 c
  · have he : e = d + 1 := by omega
    subst he
    obtain ⟨⟨L, l1, l2, l3⟩, _⟩ := id h1
    match L, l1, l2, l3 with
    | m :: L, l1, l2, l3 =>
      obtain ⟨f, hf, hfd⟩ := dist_in h1 l1 l2 l3 List.mem_cons_self
      have hf : f = d := by omega
      subst hf
      obtain ⟨g, hg⟩ := hall _ (hR _ hfd) m (l1 m List.mem_cons_self)
      rw [xor_self_r] at hg
      have z := (h.ok _ _ hg).1
      rw [← dist_fun z h1]
      exact hg
/-- an empty level: nothing lies behind it -/
theorem known_all {ms : List Nat} {ws : List (Nat × Nat)} {d : Nat} (h : known ms ws d) (h0 : ∀ x, ¬ dist ms x d) : ∀ x e, dist ms x e → (x, e) ∈ ws := by
  have z : ∀ n x e, e ≤ n → dist ms x e → e ≤ d := by
    intro n
    induction n with
    | zero => intro x e he _; omega
    | succ n ih =>
      intro x e he hd
      by_cases c : e ≤ d
      · exact c
      · obtain ⟨⟨L, l1, l2, l3⟩, _⟩ := id hd
        match L, l1, l2, l3 with
        | [], _, _, l3 => simp only [List.length_nil] at l3; omega
        | m :: L, l1, l2, l3 =>
          obtain ⟨f, hf, hfd⟩ := dist_in hd l1 l2 l3 List.mem_cons_self
          have := ih _ f (by omega) hfd
          have : f = d := by omega
          subst this
          exact absurd hfd (h0 _)
  intro x e hd
  exact (h x e).mpr ⟨hd, z e x e (Nat.le_refl _) hd⟩
end AK
set_option Elab.async false
set_option linter.all false
namespace AK
/-! ### all sums, with their places -/
def sumS (A : List (List Nat × Nat)) (k m : Nat) : List (List Nat × Nat) := A ++ A.map fun e => (e.1 ++ [k], e.2 ^^^ m)
def sumsN (ms : List Nat) : Nat → List (List Nat × Nat)
  | 0 => [([], 0)]
  | n + 1 => sumS (sumsN ms n) n (ms.getD n 0)
theorem sums_len (ms : List Nat) : ∀ n, (sumsN ms n).length = 2 ^ n
  | 0 => rfl
  | n + 1 => by
    unfold sumsN sumS
    rw [List.length_append, List.length_map, sums_len ms n, Nat.pow_succ, Nat.mul_two]
theorem ascI_up : ∀ {i n k : Nat} {J : List Nat}, n ≤ k → ascI i n J → ascI i k J
  | _, _, _, [], _, _ => trivial
  | _, _, _, _ :: _, h, ⟨h1, h2, h3⟩ => ⟨h1, Nat.lt_of_lt_of_le h2 h, ascI_up h h3⟩
theorem ascI_snoc : ∀ {i n : Nat} {J : List Nat}, i ≤ n → ascI i n J → ascI i (n + 1) (J ++ [n])
  | _, _, [], h, _ => ⟨h, Nat.lt_succ_self _, trivial⟩
  | _, _, j :: J, h, ⟨h1, h2, h3⟩ => ⟨h1, Nat.lt_succ_of_lt h2, ascI_snoc h2 h3⟩
theorem ascI_last : ∀ {i n : Nat} {J : List Nat}, ascI i (n + 1) J → ascI i n J ∨ ∃ I, J = I ++ [n] ∧ ascI i n I
  | _, _, [], _ => .inl trivial
  | i, n, j :: J, ⟨h1, h2, h3⟩ => by
    by_cases e : j = n
    · subst e
      cases J with
      | nil => exact .inr ⟨[], rfl, trivial⟩
      | cons k J => exact absurd (h3.1) (by have := h3.2.1; omega)
    · rcases ascI_last h3 with z | ⟨I, rfl, z⟩
      · exact .inl ⟨h1, by omega, z⟩
      · exact .inr ⟨j :: I, rfl, h1, by omega, z⟩
theorem sums_mem (ms : List Nat) : ∀ (n : Nat) (I : List Nat) (x : Nat), (I, x) ∈ sumsN ms n ↔ ascI 0 n I ∧ xr (at_ ms I) = x
  | 0, I, x => by
    show (I, x) ∈ [([], 0)] ↔ _
    rw [List.mem_singleton]
    constructor
    · intro e
      obtain ⟨rfl, rfl⟩ := Prod.mk.inj e
      exact ⟨trivial, rfl⟩
    · rintro ⟨h, rfl⟩
      cases I with
      | nil => rfl
      | cons j J => exact absurd h.2.1 (Nat.not_lt_zero _)
  | n + 1, I, x => by
    unfold sumsN sumS
    rw [List.mem_append, List.mem_map, sums_mem ms n]
    have eA : ∀ J : List Nat, xr (at_ ms (J ++ [n])) = xr (at_ ms J) ^^^ ms.getD n 0 := fun J => by
      unfold at_
      rw [List.map_append, xr_app]
      show _ ^^^ (_ ^^^ 0) = _
      rw [Nat.xor_zero]
    constructor
    · rintro (⟨h1, h2⟩ | ⟨⟨J, y⟩, hJ, e⟩)
      · exact ⟨ascI_up (Nat.le_succ n) h1, h2⟩
      · obtain ⟨rfl, rfl⟩ := Prod.mk.inj e
        obtain ⟨h1, h2⟩ := (sums_mem ms n J y).mp hJ
        exact ⟨ascI_snoc (Nat.zero_le _) h1, by rw [eA, h2]⟩
    · rintro ⟨h1, h2⟩
      rcases ascI_last h1 with z | ⟨J, rfl, z⟩
      · exact .inl ⟨z, h2⟩
      · refine .inr ⟨(J, xr (at_ ms J)), (sums_mem ms n J _).mpr ⟨z, rfl⟩, ?_⟩
        rw [← h2, eA]
theorem ascI_len : ∀ {i n : Nat} {J : List Nat}, i ≤ n → ascI i n J → J.length + i ≤ n
  | _, _, [], h, _ => by simpa using h
  | i, n, j :: J, h, ⟨h1, h2, h3⟩ => by
    have := ascI_len h2 h3
    simp only [List.length_cons]
    omega
/-! ### the least -/
def lexL : List Nat → List Nat → Bool
  | [], [] => false
  | [], _ :: _ => true
  | _ :: _, [] => false
  | a :: A, b :: B => decide (a < b) || (decide (a = b) && lexL A B)
theorem lexL_no : ∀ {A B : List Nat}, A.length = B.length → lexL A B = false → lexLe B A
  | [], [], _, _ => trivial
  | [], _ :: _, h, _ => by cases h
  | _ :: _, [], h, _ => by cases h
  | a :: A, b :: B, h, e => by
    unfold lexL at e
    rw [Bool.or_eq_false_iff, Bool.and_eq_false_iff] at e
    obtain ⟨e1, e2⟩ := e
    have e1 := of_decide_eq_false e1
    by_cases c : a = b
    · refine .inr ⟨c.symm, lexL_no (by simpa using h) ?_⟩
      rcases e2 with e2 | e2
      · exact absurd c (of_decide_eq_false e2)
      · exact e2
    · exact .inl (by omega)
theorem lexLe_anti : ∀ {A B : List Nat}, lexLe A B → lexLe B A → A = B
  | [], [], _, _ => rfl
  | [], _ :: _, _, h => h.elim
  | _ :: _, [], h, _ => h.elim
  | a :: A, b :: B, h, k => by
    rcases h with h | ⟨rfl, h⟩
    · rcases k with k | ⟨rfl, _⟩ <;> omega
    · rcases k with k | ⟨_, k⟩
      · omega
      · rw [lexLe_anti h k]
theorem lexL_tr : ∀ {A B C : List Nat}, lexL A B = true → lexL B C = true → lexL A C = true
  | _, [], [], _, h => by cases h
  | [], _, [], h, k => by cases ‹List Nat› <;> simp_all [lexL]
  | [], _, _ :: _, _, _ => rfl
  | _ :: _, [], _, h, _ => by cases h
  | _ :: _, _ :: _, [], _, h => by cases h
  | a :: A, b :: B, c :: C, h, k => by
    unfold lexL at h k ⊢
    rw [Bool.or_eq_true, Bool.and_eq_true, decide_eq_true_eq, decide_eq_true_eq] at h k ⊢
    rcases h with h | ⟨h1, h2⟩ <;> rcases k with k | ⟨k1, k2⟩
    · exact .inl (by omega)
    · exact .inl (by omega)
    · exact .inl (by omega)
    · exact .inr ⟨h1.trans k1, lexL_tr h2 k2⟩
/-- fewer, or as many and earlier -/
def ltR (A B : List Nat) : Bool := decide (A.length < B.length) || (decide (A.length = B.length) && lexL A B)
theorem ltR_tr {A B C : List Nat} (h : ltR A B = true) (k : ltR B C = true) : ltR A C = true := by
  unfold ltR at h k ⊢
  rw [Bool.or_eq_true, Bool.and_eq_true, decide_eq_true_eq, decide_eq_true_eq] at h k ⊢
  rcases h with h | ⟨h1, h2⟩ <;> rcases k with k | ⟨k1, k2⟩
  · exact .inl (by omega)
  · exact .inl (by omega)
  · exact .inl (by omega)
  · exact .inr ⟨h1.trans k1, lexL_tr h2 k2⟩
theorem ltR_self (A : List Nat) : ltR A A = false := by
  have z : ∀ A : List Nat, lexL A A = false := by
    intro A
    induction A with
    | nil => rfl
    | cons a A ih => unfold lexL; rw [ih]; simp
  unfold ltR
  rw [z]
  simp
theorem ltR_no {A B : List Nat} (h : ltR A B = false) : B.length < A.length ∨ (B.length = A.length ∧ lexLe B A) := by
  unfold ltR at h
  rw [Bool.or_eq_false_iff, Bool.and_eq_false_iff] at h
  have h1 := of_decide_eq_false h.1
  by_cases c : A.length = B.length
  · refine .inr ⟨c.symm, lexL_no c ?_⟩
    rcases h.2 with e | e
    · exact absurd c (of_decide_eq_false e)
    · exact e
  · exact .inl (by omega)
theorem ltR_tri {A B : List Nat} (h : ltR A B = false) (k : ltR B A = false) : A = B := by
  rcases ltR_no h with h | ⟨h, h2⟩
  · rcases ltR_no k with k | ⟨k, _⟩ <;> omega
  · rcases ltR_no k with k | ⟨_, k2⟩
    · omega
    · exact lexLe_anti k2 h2
def minR (x : List Nat) (xs : List (List Nat)) : List Nat := xs.foldl (fun a y => if ltR y a = true then y else a) x
theorem minR_ok : ∀ (xs : List (List Nat)) (x : List Nat), minR x xs ∈ x :: xs ∧ ∀ y ∈ x :: xs, ltR y (minR x xs) = false
  | [], x => ⟨List.mem_cons_self, fun y hy => by rw [List.mem_singleton.mp hy]; exact ltR_self x⟩
  | z :: xs, x => by
    have e : minR x (z :: xs) = minR (if ltR z x = true then z else x) xs := rfl
    rw [e]
    by_cases c : ltR z x = true
    · rw [if_pos c]
      obtain ⟨h1, h2⟩ := minR_ok xs z
      refine ⟨List.mem_cons_of_mem _ h1, fun y hy => ?_⟩
      rcases List.mem_cons.mp hy with rfl | hy
      · refine Bool.eq_false_iff.mpr fun w => ?_
        have := h2 z List.mem_cons_self
        rw [ltR_tr c w] at this
        cases this
      · exact h2 y hy
    · rw [if_neg c]
      obtain ⟨h1, h2⟩ := minR_ok xs x
      refine ⟨?_, fun y hy => ?_⟩
      · rcases List.mem_cons.mp h1 with h | h
        · rw [h]; exact List.mem_cons_self
        · exact List.mem_cons_of_mem _ (List.mem_cons_of_mem _ h)
      · rcases List.mem_cons.mp hy with rfl | hy
        · exact h2 y List.mem_cons_self
        · rcases List.mem_cons.mp hy with rfl | hy
          · refine Bool.eq_false_iff.mpr fun w => ?_
            rcases List.mem_cons.mp h1 with h | h
            · rw [h] at w
              exact c w
            · have q := h2 x List.mem_cons_self
              by_cases e : ltR (minR x xs) x = true
              · exact c (ltR_tr w e)
              · rw [ltR_tri q (Bool.eq_false_iff.mpr e) |>.symm] at w
                exact c w
          · exact h2 y (List.mem_cons_of_mem _ hy)
/-! ### letters of their own -/
def lm (b : Bool) (m : Nat) : Nat := if b = true then m % 16 + 64 * (m / 16) else m
theorem lm_lt {b : Bool} {m : Nat} (h : m < 64) : lm b m < 256 := by
  unfold lm
  split <;> omega
theorem lm_inj {b : Bool} {m n : Nat} (h : lm b m = lm b n) : m = n := by
  unfold lm at h
  split at h <;> omega
theorem lm_all : (List.range 64).all (fun m => (List.range 64).all fun n => decide (lm true (m ^^^ n) = lm true m ^^^ lm true n)) = true := by decide +kernel
theorem lm_xor {b : Bool} {m n : Nat} (hm : m < 64) (hn : n < 64) : lm b (m ^^^ n) = lm b m ^^^ lm b n := by
  cases b with
  | false => rfl
  | true => exact of_decide_eq_true (List.all_eq_true.mp (List.all_eq_true.mp lm_all m (List.mem_range.mpr hm)) n (List.mem_range.mpr hn))
theorem lm0 (b : Bool) : lm b 0 = 0 := by cases b <;> rfl
theorem xr_lt {L : List Nat} (h : ∀ m ∈ L, m < 64) : xr L < 64 := by
  induction L with
  | nil => decide
  | cons a L ih =>
    rw [xr_cons]
    exact Nat.xor_lt_two_pow (n := 6) (h a List.mem_cons_self) (ih fun m hm => h m (List.mem_cons_of_mem _ hm))
theorem xr_lm {b : Bool} : ∀ {L : List Nat}, (∀ m ∈ L, m < 64) → xr (L.map (lm b)) = lm b (xr L)
  | [], _ => (lm0 b).symm
  | a :: L, h => by
    have hL := fun m hm => h m (List.mem_cons_of_mem _ hm)
    rw [List.map_cons, xr_cons, xr_cons, xr_lm hL, lm_xor (h a List.mem_cons_self) (xr_lt hL)]
theorem at_lm {b : Bool} {ms I : List Nat} (h : ∀ i ∈ I, i < ms.length) : at_ (ms.map (lm b)) I = (at_ ms I).map (lm b) := by
  unfold at_
  rw [List.map_map]
  refine List.map_congr_left fun i hi => ?_
  show (ms.map (lm b)).getD i 0 = lm b (ms.getD i 0)
  rw [List.getD_eq_getElem?_getD, List.getD_eq_getElem?_getD, List.getElem?_map, List.getElem?_eq_getElem (h i hi)]
  rfl
theorem S_lm {b : Bool} : ∀ {A : List Nat} {x : Nat}, (∀ m ∈ A, m < 64) → x < 64 → (S (A.map (lm b)) (lm b x) ↔ S A x)
  | [], x, _, _ => by
    show lm b x = 0 ↔ x = 0
    constructor
    · intro e
      exact lm_inj (e.trans (lm0 b).symm)
    · intro e
      rw [e, lm0]
  | a :: A, x, h, hx => by
    have hA := fun m hm => h m (List.mem_cons_of_mem _ hm)
    have ha := h a List.mem_cons_self
    show (S (A.map (lm b)) (lm b x) ∨ S (A.map (lm b)) (lm b x ^^^ lm b a)) ↔ _
    rw [← lm_xor hx ha, S_lm hA hx, S_lm hA (Nat.xor_lt_two_pow (n := 6) hx ha)]
    rfl
/-! ### what is taken is the least of all that fit -/
theorem grd_cons (D : Nat → Nat) (m : Nat) (T : List Nat) (i r : Nat) : grd D (m :: T) i r = if D (r ^^^ m) < D r then i :: grd D T (i + 1) (r ^^^ m) else grd D T (i + 1) r := rfl
open Classical in
/-- how many are needed -/
noncomputable def dmin (ms : List Nat) (x : Nat) : Nat := if h : ∃ d, dist ms x d then h.choose else 0
theorem dmin_ok {ms : List Nat} {x : Nat} (h : ∃ d, dist ms x d) : dist ms x (dmin ms x) := by
  unfold dmin
  rw [dif_pos h]
  exact h.choose_spec
section
variable {ms : List Nat} {b : Bool} {m : Nat}
theorem at_xr (h64 : ∀ x ∈ ms, x < 64) {J : List Nat} (h : ascI 0 ms.length J) : xr (at_ (ms.map (lm b)) J) = lm b (xr (at_ ms J)) := by
  have rng : ∀ i ∈ J, i < ms.length := fun i hi => (ascI_lt h i hi).2
  rw [at_lm rng, xr_lm fun x hx => h64 x (at_mem rng x hx)]
theorem comb_ex (h64 : ∀ x ∈ ms, x < 64) {I : List Nat} (hI : (I, m) ∈ sumsN ms ms.length) : ∃ d, dist (ms.map (lm b)) (lm b m) d := by
  obtain ⟨h1, h2⟩ := (sums_mem ms _ I m).mp hI
  have rng : ∀ i ∈ I, i < (ms.map (lm b)).length := fun i hi => by rw [List.length_map]; exact (ascI_lt h1 i hi).2
  obtain ⟨d, _, hd⟩ := dist_ex _ _ (at_ (ms.map (lm b)) I) (Nat.le_refl _) (at_mem rng) (by rw [at_xr h64 h1, h2])
  exact ⟨d, hd⟩
theorem comb_in (h64 : ∀ x ∈ ms, x < 64) (h : ∃ d, dist (ms.map (lm b)) (lm b m) d) : (grd (dmin (ms.map (lm b))) (ms.map (lm b)) 0 (lm b m), m) ∈ sumsN ms ms.length := by
  obtain ⟨a1, a2, _⟩ := grd_all (ms := ms.map (lm b)) (D := dmin (ms.map (lm b))) (ms.map (lm b)) 0 (lm b m) rfl (fun x h => dmin_ok h) (dmin_ok h) (past0 _)
  rw [List.length_map] at a1
  rw [at_xr h64 a1] at a2
  exact (sums_mem ms _ _ m).mpr ⟨a1, lm_inj a2⟩
theorem comb_min (h64 : ∀ x ∈ ms, x < 64) {I : List Nat} (hI : (I, m) ∈ sumsN ms ms.length) (hmin : ∀ J, (J, m) ∈ sumsN ms ms.length → ltR J I = false) : grd (dmin (ms.map (lm b))) (ms.map (lm b)) 0 (lm b m) = I := by
  have hex := comb_ex (b := b) h64 hI
  have hG := comb_in h64 hex
  obtain ⟨h1, h2⟩ := (sums_mem ms _ I m).mp hI
  obtain ⟨_, _, a3⟩ := grd_all (ms := ms.map (lm b)) (D := dmin (ms.map (lm b))) (ms.map (lm b)) 0 (lm b m) rfl (fun x h => dmin_ok h) (dmin_ok hex) (past0 _)
  have hd := (dmin_ok hex).2 (at_ (ms.map (lm b)) I) (at_mem fun i hi => by rw [List.length_map]; exact (ascI_lt h1 i hi).2) (by rw [at_xr h64 h1, h2])
  have el : (at_ (ms.map (lm b)) I).length = I.length := List.length_map _
  rcases ltR_no (hmin _ hG) with z | ⟨z1, z2⟩
  · omega
  · refine lexLe_anti (grd_first (ms := ms.map (lm b)) (D := dmin (ms.map (lm b))) (ms.map (lm b)) 0 (lm b m) rfl (fun x h => dmin_ok h) (dmin_ok hex) I (by rw [List.length_map]; exact h1) (by rw [at_xr h64 h1, h2]) (by omega)) z2
end
/-! ### what can be derived from the others -/
theorem bas_out : ∀ (ms R : List Nat) (i k : Nat), good R → i ≤ k → k < i + ms.length → k ∉ bas ms R i → S (R ++ ms.take (k - i)) (ms.getD (k - i) 0)
  | [], R, i, k, _, h1, h2, _ => by simp only [List.length_nil] at h2; omega
  | m :: ms, R, i, k, g, h1, h2, h => by
    simp only [List.length_cons] at h2
    have e : bas (m :: ms) R i = if rem R m = 0 then bas ms R (i + 1) else i :: bas ms (R ++ [rem R m]) (i + 1) := rfl
    by_cases c : k = i
    · subst c
      by_cases z : rem R m = 0
      · rw [Nat.sub_self]
        show S (R ++ []) m
        rw [List.append_nil]
        exact (rem_zero g m).mp z
      · rw [e, if_neg z] at h
        exact absurd List.mem_cons_self h
    · have ek : k - i = (k - (i + 1)) + 1 := by omega
      rw [ek]
      show S (R ++ m :: ms.take (k - (i + 1))) (ms.getD (k - (i + 1)) 0)
      generalize hx : ms.getD (k - (i + 1)) 0 = x
      by_cases z : rem R m = 0
      · rw [e, if_pos z] at h
        have y := bas_out ms R (i + 1) k g (by omega) (by omega) h
        rw [hx] at y
        rw [show R ++ m :: ms.take (k - (i + 1)) = (R ++ [m]) ++ ms.take (k - (i + 1)) from by simp]
        obtain ⟨u, y1, y2⟩ := (S_app _ _ _).mp y
        exact (S_app _ _ _).mpr ⟨u, S_left [m] y1, y2⟩
      · rw [e, if_neg z] at h
        have es : spn [m] R = R ++ [rem R m] := by
          show sp R m = _
          unfold sp
          rw [if_neg z]
        have y := bas_out ms (R ++ [rem R m]) (i + 1) k (es ▸ good_spn [m] R g) (by omega) (by omega) fun w => h (List.mem_cons_of_mem _ w)
        rw [hx] at y
        rw [show R ++ m :: ms.take (k - (i + 1)) = (R ++ [m]) ++ ms.take (k - (i + 1)) from by simp]
        obtain ⟨u, y1, y2⟩ := (S_app _ _ _).mp y
        rw [← es] at y1
        exact (S_app _ _ _).mpr ⟨u, (S_spn [m] R u g).mp y1, y2⟩
theorem rid_S (ms : List Nat) (i : Nat) : rid ms i = true ↔ S (oth ms i) (ms.getD i 0) := by
  unfold rid
  rw [decide_eq_true_eq, rem_zero (good_spn _ [] trivial), S_spn0]
theorem redu_S (ms : List Nat) : redu ms = (List.range ms.length).filter fun i => decide (ms.getD i 0 ∈ der (oth ms i)) := by
  unfold redu
  refine List.filter_congr fun i hi => ?_
  have hi := List.mem_range.mp hi
  rw [← decide_not, decide_eq_decide, der_mem, ← rid_S, List.mem_filter]
  constructor
  · intro h
    by_cases hb : i ∈ bas ms [] 0
    · refine Classical.byContradiction fun z => h ⟨hb, by rw [Bool.eq_false_iff.mpr z]; rfl⟩
    · have y := bas_out ms [] 0 i trivial (Nat.zero_le _) (by omega) hb
      rw [Nat.sub_zero, List.nil_append] at y
      rw [rid_S]
      exact S_left _ y
  · rintro h ⟨_, z⟩
    rw [h] at z
    cases z
theorem oth_lm (b : Bool) (ms : List Nat) (i : Nat) : oth (ms.map (lm b)) i = (oth ms i).map (lm b) := by
  unfold oth
  rw [List.map_append, List.map_take, List.map_drop]
theorem redu_lm {b : Bool} {ms : List Nat} (h64 : ∀ x ∈ ms, x < 64) : redu (ms.map (lm b)) = (List.range ms.length).filter fun i => decide (ms.getD i 0 ∈ der (oth ms i)) := by
  rw [redu_S, List.length_map]
  refine List.filter_congr fun i hi => ?_
  have hi := List.mem_range.mp hi
  have eg : (ms.map (lm b)).getD i 0 = lm b (ms.getD i 0) := by
    rw [List.getD_eq_getElem?_getD, List.getD_eq_getElem?_getD, List.getElem?_map, List.getElem?_eq_getElem hi]
    rfl
  have hx : ms.getD i 0 < 64 := by
    rw [List.getD_eq_getElem?_getD, List.getElem?_eq_getElem hi]
    exact h64 _ (List.getElem_mem _)
  rw [decide_eq_decide, der_mem, der_mem, eg, oth_lm]
  refine S_lm (fun m hm => ?_) hx
  unfold oth at hm
  rcases List.mem_append.mp hm with z | z
  · exact h64 _ (List.mem_of_mem_take z)
  · exact h64 _ (List.mem_of_mem_drop z)
end AK
set_option Elab.async false
set_option linter.all false
set_option maxRecDepth 100000
set_option maxHeartbeats 4000000
namespace AK
open PySem PySem.Spec PyProof.Rows L2
theorem lcStr {g : TG} {σ : L2.St} {H : Hp} {tt : TT} {te : TE} {vs : List Nat} {Q : VK} {x : Str} (Pv : Nat → Addr → Hp → Prop) (h0 : ∀ D, H D = none → Pv 0 D (upd H D (.lst [])))
    (hs : ∀ i c D H', H D = none → (lt x)[i]? = some c → Pv i D H' → g (.str (tx [c])) (wipe σ vs) H' fun σ2 H2 => wipe σ2 vs = wipe σ vs ∧ tt σ2 H2 fun b H3 => if b = true then te σ2 H3 fun y H4 => ∃ acc, H4 D = some (.lst acc) ∧ acc.length < sizeLine ∧ Pv (i + 1) D (upd H4 D (.lst (acc ++ [y]))) else Pv (i + 1) D H3)
    (hd : ∀ D H', H D = none → Pv (lt x).length D H' → Q (.ref D) H') : contL g tt te vs σ Q (Its x) H := by
  intro D hD
  have hz : (lt x).length = x.cps.size := Array.length_toList ..
  refine ⟨fun i m H' => m = x.cps.size - i ∧ i ≤ x.cps.size ∧ Pv i D H', ⟨x.cps.size, by simp, Nat.zero_le _, h0 D hD⟩, ?_⟩
  rintro i m H' ⟨rfl, hi, p⟩
  by_cases hlt : i < x.cps.size
  · refine .inr ⟨hlt, fun H' => Pv (i + 1) D H', fun H' p' => ⟨x.cps.size - (i + 1), by omega, rfl, hlt, p'⟩, fun y H2 hy => ?_⟩
    obtain ⟨rfl, c, hc, rfl⟩ := hy
    exact hs i c D _ hD (by show x.cps.toList[i]? = some c; rw [Array.getElem?_toList]; exact hc) p
  · have e : i = x.cps.size := by omega
    subst e
    exact .inl ⟨Nat.le_refl _, hd D H' hD (by rw [hz]; exact p)⟩
/-! ### sorted(xs), texts, any number of them -/
def rSortedSA (K : PySem.W.Frag) : List V → Hp → VK → Prop := fun vs H Q => ∃ (a : Addr) (xs : List Str), vs = [V.ref a] ∧ SqL K H a (xs.map V.str) ∧
  ∀ (ys : List Str) (p : Addr), ys.Perm xs → sortedS ys = true → H p = none → Q (.ref p) (upd H p (.lst (ys.map V.str)))
theorem cr_sortedSA {X : Cx} : CallR X (.builtin "sorted") (rSortedSA X.K) := by
  intro pins s σ H vs us Q I r h
  obtain ⟨a, xs, rfl, hs, q⟩ := h
  obtain ⟨its, rv, hl, hz⟩ := I.list hs
  rw [Vals.ref1 r]
  have hlen0 := rv.length
  have hz' : its.length ≤ sizeLine := by rw [← hlen0]; exact hz
  rw [List.length_map] at hlen0
  refine PyProof.Rows.sorted_strsAny hl.isList rv.strs hz' fun out ys h1 h2 h3 => ?_
  obtain ⟨ep, he'⟩ := PyProof.Rows.sortedAll_at s.heap its out
  have hlen : (ys.map V.str).length ≤ sizeLine := by rw [List.length_map, h2.length_eq, hlen0]; exact hz'
  exact ⟨.ref _, upd H (s.heap.objs.size + 1) (.lst (ys.map V.str)), I.laid (t' := s.toks) (fun _ _ => PyProof.Rows.sortedAll_old) (Nat.le_succ _) ⟨hlen, out.toList, ep, vals_of_strs h1, he'⟩, rfl, q ys _ h2 h3 (I.hok.fresh (Nat.le_succ _))⟩
theorem rowLT {K : PySem.W.Frag} {H : Hp} {p : Addr} {xs : List V} (h : RowAt H p xs) : SqL K H p xs ∨ SqT K H p xs := h.imp SqL.of SqT.of
theorem rowS {H H' : Hp} {p : Addr} {xs : List V} (s : Same H H') (h : RowAt H p xs) : RowAt H' p xs := h.imp (s _ _) (s _ _)
/-- a comprehension over a list or a tuple that H holds itself -/
theorem lcRow {g : TG} {σ : L2.St} {H : Hp} {K : PySem.W.Frag} {tt : TT} {te : TE} {vs : List Nat} {Q : VK} {p : Addr} {xs : List V} (hr : RowAt H p xs) (Pv : Nat → Addr → Hp → Prop) (h0 : ∀ D, H D = none → Pv 0 D (upd H D (.lst []))) (hk : ∀ i D H', H D = none → i ≤ xs.length → Pv i D H' → ∀ o, H p = some o → H' p = some o)
    (hs : ∀ i x D H', H D = none → xs[i]? = some x → Pv i D H' → g x (wipe σ vs) H' fun σ2 H2 => wipe σ2 vs = wipe σ vs ∧ tt σ2 H2 fun b H3 => if b = true then te σ2 H3 fun y H4 => ∃ acc, H4 D = some (.lst acc) ∧ acc.length < sizeLine ∧ Pv (i + 1) D (upd H4 D (.lst (acc ++ [y]))) else Pv (i + 1) D H3)
    (hd : ∀ D H', H D = none → Pv xs.length D H' → Q (.ref D) H') :
    (∃ xs, SqL K H p xs ∧ contL g tt te vs σ Q (Itl K p) H) ∨ ∃ xs, SqT K H p xs ∧ contL g tt te vs σ Q (Itt K p) H := by
  rcases hr with h | h
  · exact .inl ⟨xs, SqL.of h, lcLst (xs := xs) Pv h0 (fun i D H' hD hi z => SqL.of (hk i D H' hD hi z _ h)) hs hd⟩
  · exact .inr ⟨xs, SqT.of h, lcTup (xs := xs) Pv h0 (fun i D H' hD hi z => SqT.of (hk i D H' hD hi z _ h)) hs hd⟩
/-! ### a def with a default -/
theorem FunD.ok0 {P : Program} {w : World} {K : PySem.W.Frag} {mg : Str → Option Value} {base : Heap} {x qual : Str} {params : Arguments} {body : List Stmt} {scope : Scope} {dvs : List V} {kws : List (Str × V)} {f : Addr} {fd : FuncData} {N ps : List Str} {k : Nat} {sp : Sp} (F : FunD K x qual params body scope dvs kws f fd) (S : FnScope N ps scope) (len : ∀ vs H Q E, sp vs H Q E → vs.length = ps.length)
    (hbody : ∀ (cdv : Value) (A : Around) (outer : List Env) (s : Shared) (H : Hp) (vs : List V) (Q : VK) (E : XK), Room k (A.deeper (envOfC qual scope s.heap.objs.size f cdv)) → sp vs H Q E →
      ∃ t, PSs (cxOf CX0 P w K mg base N qual scope f cdv A outer s H E).nox body t ∧ t { nx := fun _ H' => Q .non H', rt := Q } (start N vs) H) : FnOk P w K mg base CX0 (k + 1) f fd ps sp :=
  F.ok S len fun cdv A outer s H vs Q E hr hsp => by
    obtain ⟨t, h, q⟩ := hbody cdv A outer s H vs Q E hr hsp
    exact ⟨t, h.nox, q⟩
theorem def_all {K : PySem.W.Frag} {x qual : Str} {params : Arguments} {body : List Stmt} {scope : Scope} {d : V} {kws : List (Str × V)} {f : Addr} {fd : FuncData} {ps : List Str} (F : FunD K x qual params body scope [d] kws f fd) (n : Nat) (hn : n = ps.length)
    (h : ∀ (T : Addr) (kV doc pm : Value) (an : Option Addr) (cdv ct : Value) (us its : List Value), us.length = n → its.length = [d].length →
      ∃ k, bindArgs (PySem.W.fnOf x qual params body scope (.ref T) kV doc pm an cdv ct) ⟨us, []⟩ = seqItems? (.ref T) >>= k ∧ k (some its.toArray) = pure (ps.zip (us ++ its.drop 1))) : Binds K fd ps [] := by
  obtain ⟨ds, v, b⟩ := FunD.binds1 F n 1 (by simp) (by simpa using hn) h
  cases v
  exact b
/-! ### numbers from 0 on -/
abbrev ni (l : List Nat) : List V := l.map fun n : Nat => V.int (n : Int)
theorem xor_nat (m n : Nat) : Builtin.bitXor (m : Int) (n : Int) = ((m ^^^ n : Nat) : Int) := by
  rw [Bits.bitXor_pp (Int.natCast_nonneg m) (Int.natCast_nonneg n), Int.toNat_natCast, Int.toNat_natCast]
theorem ni_snoc (l : List Nat) (n : Nat) : ni l ++ [V.int (n : Int)] = ni (l ++ [n]) := by simp [ni]
theorem ni_len (l : List Nat) : (ni l).length = l.length := List.length_map _
theorem ni_at {l : List Nat} {i : Nat} {x : V} (h : (ni l)[i]? = some x) : ∃ n, l[i]? = some n ∧ x = V.int (n : Int) := map_at h
theorem drop_at {α : Type} {l : List α} {i : Nat} {x : α} (h : l[i]? = some x) : l.drop i = x :: l.drop (i + 1) := by
  obtain ⟨hi, e⟩ := List.getElem?_eq_some_iff.mp h
  rw [← e]
  exact List.drop_eq_getElem_cons hi
/-! ### parities as texts -/
def pl (m : Nat) : List Nat := ((List.range 8).filter fun k => m.testBit k).map (97 + ·)
def pt (m : Nat) : Str := tx (pl m)
abbrev ps (l : List Nat) : List V := l.map fun m => V.str (pt m)
def A8 : List Nat := lt ("abcdefgh" : Str)
theorem A8_tx : ("abcdefgh" : Str) = tx A8 := (tx_lt _).symm
def plB (m : Nat) : Bool := asc A8 (pl m) && (decide (((pl m).map fun c => 2 ^ (c - 97)).sum = m) && (pl m).all fun c => decide (97 ≤ c) && decide (c ≤ 104))
theorem plB_all : (List.range 256).all plB = true := by decide +kernel
theorem plB_of {m : Nat} (h : m < 256) : asc A8 (pl m) = true ∧ ((pl m).map fun c => 2 ^ (c - 97)).sum = m ∧ ∀ c ∈ pl m, 97 ≤ c ∧ c ≤ 104 := by
  have z := List.all_eq_true.mp plB_all m (List.mem_range.mpr h)
  unfold plB at z
  rw [Bool.and_eq_true, Bool.and_eq_true] at z
  refine ⟨z.1, of_decide_eq_true z.2.1, fun c hc => ?_⟩
  have y := List.all_eq_true.mp z.2.2 c hc
  rw [Bool.and_eq_true] at y
  exact ⟨of_decide_eq_true y.1, of_decide_eq_true y.2⟩
theorem pl_inj {m n : Nat} (hm : m < 256) (hn : n < 256) (h : pl m = pl n) : m = n := by
  rw [← (plB_of hm).2.1, ← (plB_of hn).2.1, h]
theorem pt_inj {m n : Nat} (hm : m < 256) (hn : n < 256) (h : pt m = pt n) : m = n := pl_inj hm hn (tx_inj h)
theorem ix8_all : (List.range 8).all (fun k => decide (Txt.index0 (tx A8) (tx [97 + k]) = some k)) = true := by decide +kernel
theorem ix8 {c : Nat} (h1 : 97 ≤ c) (h2 : c ≤ 104) : Txt.index0 (tx A8) (tx [c]) = some (c - 97) := by
  have z := of_decide_eq_true (List.all_eq_true.mp ix8_all (c - 97) (List.mem_range.mpr (by omega)))
  rw [show 97 + (c - 97) = c from by omega] at z
  exact z
theorem pl_len (m : Nat) : (pl m).length ≤ 8 := by
  unfold pl
  rw [List.length_map]
  exact Nat.le_trans (List.length_filter_le _ _) (by rw [List.length_range]; exact Nat.le_refl _)
theorem ni_pow : ∀ l : List Nat, (l.map fun c => (((2 ^ (c - 97) : Nat)) : Int)).sum = (((l.map fun c => 2 ^ (c - 97)).sum : Nat) : Int)
  | [] => rfl
  | c :: l => by
    rw [List.map_cons, List.map_cons, List.sum_cons, List.sum_cons, ni_pow l, Int.natCast_add]
theorem cutV_take (xs : List V) (n : Nat) : cutV xs none (some (n : Int)) = xs.take n := by
  unfold cutV
  rw [HT.sIx_none, HT.sIx_nat, List.drop_zero, Nat.sub_zero]
  by_cases h : n ≤ xs.length
  · rw [Nat.min_eq_left h]
  · rw [Nat.min_eq_right (Nat.le_of_not_le h), List.take_of_length_le (Nat.le_refl _), List.take_of_length_le (Nat.le_of_not_le h)]
theorem cutV_drop (xs : List V) (n : Nat) : cutV xs (some (n : Int)) none = xs.drop n := by
  unfold cutV
  rw [HT.sIx_none, HT.sIx_nat]
  by_cases h : n ≤ xs.length
  · rw [Nat.min_eq_left h, List.take_of_length_le (by rw [List.length_drop]; exact Nat.le_refl _)]
  · rw [Nat.min_eq_right (Nat.le_of_not_le h), List.drop_of_length_le (Nat.le_refl _), List.drop_of_length_le (Nat.le_of_not_le h), List.take_nil]
theorem flat_ni (l : List Nat) : (ni l).all flatV = true := by
  rw [List.all_map, List.all_eq_true]
  exact fun _ _ => rfl
theorem flat_ps (l : List Nat) : (ps l).all flatV = true := by
  rw [List.all_map, List.all_eq_true]
  exact fun _ _ => rfl
theorem in_ni (n : Nat) : ∀ l : List Nat, inV (V.int (n : Int)) (ni l) = decide (n ∈ l)
  | [] => rfl
  | k :: l => by
    have ih := in_ni n l
    unfold inV at ih ⊢
    rw [show ni (k :: l) = V.int (k : Int) :: ni l from rfl, List.any_cons, ih]
    show (((k : Int) == (n : Int)) || decide (n ∈ l)) = _
    by_cases h : n = k
    · subst h
      simp
    · have : ((k : Int) == (n : Int)) = false := beq_eq_false_iff_ne.mpr (fun z => h (by exact_mod_cast z.symm))
      rw [this]
      simp [h]
theorem in_ps {n : Nat} (hn : n < 256) : ∀ {l : List Nat}, (∀ k ∈ l, k < 256) → inV (V.str (pt n)) (ps l) = decide (n ∈ l)
  | [], _ => rfl
  | k :: l, hl => by
    have ih := in_ps hn (l := l) fun x hx => hl x (List.mem_cons_of_mem _ hx)
    unfold inV at ih ⊢
    rw [show ps (k :: l) = V.str (pt k) :: ps l from rfl, List.any_cons, ih]
    show ((pt k == pt n) || decide (n ∈ l)) = _
    by_cases h : n = k
    · subst h
      simp
    · have : (pt k == pt n) = false := beq_eq_false_iff_ne.mpr (fun z => h (pt_inj (hl k List.mem_cons_self) hn z).symm)
      rw [this]
      simp [h]
theorem int0_eq (n : Nat) : decide (V.int (n : Int) = V.int 0) = decide (n = 0) := by
  by_cases h : n = 0
  · rw [h]
    rfl
  · rw [decide_eq_false h, decide_eq_false (fun z => h (by have := V.int.inj z; exact_mod_cast this))]
/-- an empty tuple of the written part -/
theorem tup0_ok {K : PySem.W.Frag} {t : Addr} (h : tup0B K t = true) (H : Hp) : SqT K H t [] := by
  unfold tup0B at h
  cases q : K.lookup t with
  | none =>
    rw [q] at h
    cases h
  | some o =>
    obtain ⟨oc, od, dt, osl⟩ := o
    rw [q] at h
    cases oc with
    | type c =>
      cases dt with
      | seq its n =>
        obtain ⟨h1, h2⟩ := He.ba (show (decide (c = "tuple") && decide (its = #[])) = true from h)
        have h2 := of_decide_eq_true h2
        subst h2
        exact .inr ⟨_, #[], n, q, congrArg Value.type (of_decide_eq_true h1), rfl, Nat.zero_le _, .nil⟩
      | _ => cases h
    | _ => cases dt <;> cases h
end AK
set_option Elab.async false
set_option linter.all false
set_option maxRecDepth 100000
set_option maxHeartbeats 4000000
namespace AK
open PySem PySem.Spec PyProof.Rows L2 PySem.Builtin PySem.Builtin.Str
/-! ### how often a sign stands in a text -/
theorem occ_cnt (x : Str) (c : Nat) : ∀ (m k : Nat) (st : Array Nat × Nat), k + m = x.length + 1 → st.snd ≤ k → st.fst.size ≤ k →
    (forIn (List.range' k m) st (StrLaws.occBody x ⟨#[c]⟩ x.length (x.length + 1))).run.fst.size = st.fst.size + ((lt x).drop k).count c
  | 0, k, st, h, h1, h2 => by
    rw [List.drop_of_length_le (by rw [len_lt]; omega)]
    rfl
  | m + 1, k, st, h, h1, h2 => by
    rw [List.range'_succ, List.forIn_cons]
    unfold StrLaws.occBody
    have so := StrLaws.subAt_one x c k
    by_cases hc : (lt x)[k]? = some c
    · obtain ⟨e1, e2⟩ := so.mpr hc
      rw [if_pos ⟨⟨⟨by omega, h1⟩, e1⟩, e2⟩]
      have ih := occ_cnt x c m (k + 1) (st.fst.push k, k + 1) (by omega) (Nat.le_refl _) (by rw [Array.size_push]; omega)
      rw [Array.size_push] at ih
      rw [drop_at hc, List.count_cons_self]
      exact ih.trans (by omega)
    · rw [if_neg fun z => hc (so.mp ⟨z.1.2, z.2⟩)]
      have ih := occ_cnt x c m (k + 1) st (by omega) (by omega) (by omega)
      refine ih.trans ?_
      by_cases hk : k < (lt x).length
      · rw [List.drop_eq_getElem_cons hk, List.count_cons_of_ne]
        intro z
        exact hc (by rw [List.getElem?_eq_getElem hk, z])
      · rw [List.drop_of_length_le (Nat.le_of_not_lt hk), List.drop_of_length_le (by omega)]
theorem cnt_one (x : Str) (c : Nat) : Txt.count x (tx [c]) = ((lt x).count c : Nat) := by
  unfold Txt.count
  rw [StrLaws.occ_eq, Array.length_toList]
  have z := occ_cnt x c (x.length + 1) 0 (#[], 0) (by omega) (Nat.le_refl _) (Nat.le_refl _)
  rw [List.drop_zero] at z
  rw [show tx [c] = (⟨#[c]⟩ : Str) from rfl, Nat.sub_zero]
  exact_mod_cast z.trans (Nat.zero_add _)
def cntB (m : Nat) : Bool := (List.range 8).all fun k => decide ((pl m).count (97 + k) = if m.testBit k then 1 else 0)
theorem cntB_all : (List.range 256).all cntB = true := by decide +kernel
theorem cnt_pl {m k : Nat} (hm : m < 256) (hk : k < 8) : (pl m).count (97 + k) = if m.testBit k then 1 else 0 :=
  of_decide_eq_true (List.all_eq_true.mp (List.all_eq_true.mp cntB_all m (List.mem_range.mpr hm)) k (List.mem_range.mpr hk))
/-! ### a sorted row of texts is the only one -/
theorem sortedS_pw : ∀ (l : List Str), sortedS l = true → l.Pairwise (fun a b => a.cps.toList ≤ b.cps.toList)
  | [], _ => .nil
  | [x], _ => List.pairwise_singleton ..
  | x :: y :: r, h => by
    have h : (!ltCps y.cps.toList x.cps.toList && sortedS (y :: r)) = true := h
    rw [Bool.and_eq_true, ltCps_eq, Bool.not_eq_true', decide_eq_false_iff_not] at h
    have ih := sortedS_pw (y :: r) h.2
    have hxy : x.cps.toList ≤ y.cps.toList := h.1
    refine List.pairwise_cons.mpr ⟨fun z hz => ?_, ih⟩
    rcases List.mem_cons.mp hz with e | hz
    · rw [e]; exact hxy
    · exact List.le_trans hxy ((List.pairwise_cons.mp ih).1 z hz)
theorem sortedS_eq {l m : List Str} (hl : sortedS l = true) (hm : sortedS m = true) (p : l.Perm m) : l = m :=
  List.Perm.eq_of_pairwise (le := fun a b : Str => a.cps.toList ≤ b.cps.toList) (fun a b _ _ h1 h2 => by
    have z := List.le_antisymm h1 h2
    rw [← tx_lt a, ← tx_lt b]
    exact congrArg tx z) (sortedS_pw l hl) (sortedS_pw m hm) p
/-! ### drawn parities -/
def subs : List Nat → List (List Nat)
  | [] => [[]]
  | x :: l => subs l ++ (subs l).map (x :: ·)
theorem mem_subs : ∀ {l m : List Nat}, m.Sublist l → m ∈ subs l
  | [], m, h => by
    rw [List.sublist_nil.mp h]
    simp [subs]
  | x :: l, m, h => by
    cases h with
    | cons _ h => exact List.mem_append_left _ (mem_subs h)
    | cons_cons _ h => exact List.mem_append_right _ (List.mem_map.mpr ⟨_, mem_subs h, rfl⟩)
def six : List Nat := [97, 98, 99, 100, 101, 102]
theorem six_tx : ("abcdef" : Str) = tx six := by decide +kernel
theorem sub6_all : (subs six).all (fun l => (List.range 64).any fun m => decide (l = pl m)) = true := by decide +kernel
theorem sub6 {l : List Nat} (h : l.Sublist six) : ∃ m, m < 64 ∧ l = pl m := by
  obtain ⟨m, hm, e⟩ := List.any_eq_true.mp (List.all_eq_true.mp sub6_all l (mem_subs h))
  exact ⟨m, List.mem_range.mp hm, of_decide_eq_true e⟩
theorem sub6v_all : (List.range 7).all (fun n => (subs (six.take n)).all fun l => (List.range (2 ^ n)).any fun m => decide (l = pl m)) = true := by decide +kernel
theorem sub6v {n : Nat} (hn : n ≤ 6) {l : List Nat} (h : l.Sublist (six.take n)) : ∃ m, m < 2 ^ n ∧ l = pl m := by
  obtain ⟨m, hm, e⟩ := List.any_eq_true.mp (List.all_eq_true.mp (List.all_eq_true.mp sub6v_all n (List.mem_range.mpr (by omega))) l (mem_subs h))
  exact ⟨m, List.mem_range.mp hm, of_decide_eq_true e⟩
theorem pt0 : ("" : Str) = pt 0 := by decide +kernel
theorem xor64 {m n : Nat} (hm : m < 64) (hn : n < 64) : m ^^^ n < 64 := Nat.xor_lt_two_pow (n := 6) hm hn
/-- the letters of a sum -/
theorem pl6_all : (List.range 64).all (fun m => decide (pl m = six.filter fun c => m.testBit (c - 97))) = true := by decide +kernel
theorem pl6 {m : Nat} (h : m < 64) : pl m = six.filter fun c => m.testBit (c - 97) := of_decide_eq_true (List.all_eq_true.mp pl6_all m (List.mem_range.mpr h))
theorem cnt_xor {m n c : Nat} (hm : m < 64) (hn : n < 64) (hc : c ∈ six) : decide (((pl m ++ pl n).count c) % 2 = 1) = (m ^^^ n).testBit (c - 97) := by
  have h8 : 97 ≤ c ∧ c ≤ 102 := by
    have : ∀ c ∈ six, 97 ≤ c ∧ c ≤ 102 := by decide
    exact this c hc
  have e : 97 + (c - 97) = c := by omega
  rw [List.count_append, Nat.testBit_xor, ← e, cnt_pl (by omega) (by omega), cnt_pl (by omega) (by omega), e]
  cases m.testBit (c - 97) <;> cases n.testBit (c - 97) <;> rfl
end AK
set_option Elab.async false
set_option linter.all false
set_option maxRecDepth 100000
set_option maxHeartbeats 4000000
namespace AK
open PySem PySem.Spec PyProof.Rows L2
/-! ### lists of texts, compared -/
theorem dpAll_str {K : PySem.W.Frag} {H : Hp} : ∀ l : List Str, DpAll K H (l.map V.str) (l.map PyData.str)
  | [] => .nil
  | x :: l => .cons (.str x) (dpAll_str l)
theorem dp_strs {K : PySem.W.Frag} {H : Hp} {p : Addr} {l : List Str} (h : SqL K H p (l.map V.str)) : Dp K H (.ref p) (.list (l.map PyData.str)) := .lst h (dpAll_str l)
theorem eqvAll_str : ∀ l m : List Str, PyData.eqvAll (l.map PyData.str) (m.map PyData.str) = decide (l = m)
  | [], [] => rfl
  | [], _ :: _ => by simp [PyData.eqvAll]
  | _ :: _, [] => by simp [PyData.eqvAll]
  | x :: l, y :: m => by
    simp only [List.map_cons, PyData.eqvAll, eqvAll_str l m, PyData.eqv]
    by_cases h : x = y <;> by_cases h2 : l = m <;> simp [h, h2]
theorem eqv_strs (l m : List Str) : PyData.eqv (.list (l.map PyData.str)) (.list (m.map PyData.str)) = decide (l = m) := by
  rw [PyData.eqv]
  exact eqvAll_str l m
theorem canAll_str : ∀ l : List Str, (∀ x ∈ l, PyData.strOk x = true) → PyData.canLayAll0 (l.map PyData.str) = true
  | [], _ => rfl
  | x :: l, h => by
    simp [PyData.canLayAll0, PyData.canLay0, canAll_str l fun y hy => h y (List.mem_cons_of_mem _ hy), h x List.mem_cons_self]
theorem depAll_str : ∀ l : List Str, PyData.depthAll (l.map PyData.str) ≤ 1
  | [] => by simp [PyData.depthAll]
  | x :: l => by
    have := depAll_str l
    simp [PyData.depthAll, PyData.depth]
    omega
theorem strOk_all : (List.range 256).all (fun m => PyData.strOk (pt m)) = true := by decide +kernel
theorem strOk_pt {m : Nat} (h : m < 256) : PyData.strOk (pt m) = true := List.all_eq_true.mp strOk_all m (List.mem_range.mpr h)
theorem shaped_strs {l : List Str} (hs : ∀ x ∈ l, PyData.strOk x = true) (h : l.length ≤ 900) : SeqAt.shaped (.list (l.map PyData.str)) = true := by
  unfold SeqAt.shaped
  rw [Bool.and_eq_true]
  constructor
  · simp [PyData.canLay0, canAll_str l hs]
    try exact sizeLe (by omega)
  · refine decide_eq_true ?_
    have := depAll_str l
    simp [PyData.depth]
    omega
theorem dpAll_int {K : PySem.W.Frag} {H : Hp} : ∀ l : List Nat, DpAll K H (ni l) (l.map fun n : Nat => PyData.int (n : Int))
  | [] => .nil
  | x :: l => .cons (.int x) (dpAll_int l)
theorem dp_tints {K : PySem.W.Frag} {H : Hp} {p : Addr} {l : List Nat} (h : SqT K H p (ni l)) : Dp K H (.ref p) (.tuple (l.map fun n : Nat => PyData.int (n : Int))) := .tup h (dpAll_int l)
theorem eqv_tnil (l : List Nat) : PyData.eqv (.tuple (l.map fun n : Nat => PyData.int (n : Int))) (.tuple (([] : List Nat).map fun n : Nat => PyData.int (n : Int))) = decide (l = []) := by
  rw [PyData.eqv]
  cases l <;> simp [PyData.eqvAll]
theorem canAll_int : ∀ l : List Nat, PyData.canLayAll0 (l.map fun n : Nat => PyData.int (n : Int)) = true
  | [] => rfl
  | x :: l => by
    simp [PyData.canLayAll0, PyData.canLay0, canAll_int l]
theorem depAll_int : ∀ l : List Nat, PyData.depthAll (l.map fun n : Nat => PyData.int (n : Int)) ≤ 1
  | [] => by simp [PyData.depthAll]
  | x :: l => by
    have := depAll_int l
    simp [PyData.depthAll, PyData.depth]
    omega
theorem shaped_tints (l : List Nat) : SeqAt.shaped (.tuple (l.map fun n : Nat => PyData.int (n : Int))) = true := by
  unfold SeqAt.shaped
  rw [Bool.and_eq_true]
  constructor
  · simp [PyData.canLay0, canAll_int l]
  · refine decide_eq_true ?_
    have := depAll_int l
    simp [PyData.depth]
    omega
theorem ps_at {l : List Nat} {i : Nat} {x : V} (h : (ps l)[i]? = some x) : ∃ n, l[i]? = some n ∧ x = V.str (pt n) := map_at h
theorem lt_pt (m : Nat) : lt (pt m) = pl m := rfl
end AK
set_option Elab.async false
set_option linter.all false
set_option maxRecDepth 100000
set_option maxHeartbeats 4000000
namespace AK
open PySem PySem.Spec PyProof.Rows L2
/-! ### min(l) of a list of alike data -/
theorem vals_at : ∀ {vs : List V} {us : List Value}, Vals vs us → ∀ (i : Nat) (u : Value), us[i]? = some u → ∃ v, vs[i]? = some v ∧ RelV v u
  | _, _, .nil, i, u, h => by cases h
  | _, _, .cons r rs, 0, u, h => ⟨_, rfl, by cases h; exact r⟩
  | _, _, .cons r rs, i + 1, u, h => vals_at rs i u h
def rMinD (K : PySem.W.Frag) : List V → Hp → VK → Prop := fun vs H Q => ∃ (a : Addr) (xs : List V) (x : PyData) (ds : List PyData), vs = [V.ref a] ∧ SqL K H a xs ∧ DpAll K H xs (x :: ds) ∧ PySem.W.AlikeAll (x :: ds) ∧ PyData.depthAll (x :: ds) ≤ 60 ∧
  ∀ (i : Nat) (v : V), xs[i]? = some v → (x :: ds)[i]? = some (PySem.W.minD x ds) → Q v H
theorem cr_minD {X : Cx} (hc : X.calm = true) (hu : X.A.units + 64 < cLine) : CallR X (.builtin "min") (rMinD X.K) := by
  intro pins s σ H vs us Q I r h
  obtain ⟨a, xs, x, ds, rfl, hs, hd, hal, h60, q⟩ := h
  rw [Vals.ref1 r]
  obtain ⟨its, rv, pl, hz⟩ := I.list hs
  obtain ⟨as, hr⟩ := Dp.readsAll I (x :: ds) xs its hd rv
  refine PySem.W.min_list_data (I.ok.hd hc) pl.isList (by simpa using hr) hal (by omega) fun i v h' tk bs hi hm hk => ?_
  have hi' : its[i]? = some v := by simpa using hi
  obtain ⟨y, hy, ry⟩ := vals_at rv i v hi'
  obtain ⟨bs2, r2, r3, _, _⟩ := PySem.W.readsAll_atA (vs := its.toArray) (by simpa using hr) i v hi
  have e := (reads_det (fun b o e _ => hk b o e) r2 hm).1
  refine ⟨y, H, I.kept hk, ry, q i y hy ?_⟩
  rw [e, List.getElem?_eq_getElem r3, List.getD_eq_getElem?_getD, List.getElem?_eq_getElem r3]
  rfl
/-! ### xs + ys of tuples, the left one perhaps empty -/
def rCatTA (K : PySem.W.Frag) : R2 := fun x y H Q => ∃ a b xs ys, x = .ref a ∧ y = .ref b ∧ SqT K H a xs ∧ SqT K H b ys ∧ ys ≠ [] ∧ xs.length + ys.length ≤ sizeLine ∧ (xs = [] → Q (.ref b) H) ∧ (xs ≠ [] → ∀ p, H p = none → Q (.ref p) (upd H p (.tup (xs ++ ys))))
theorem op_catTA {X : Cx} : OpR X (binaryOp .Add) (rCatTA X.K) := by
  intro pins s σ H x y v u Q I rx ry h
  obtain ⟨a, b, xs, ys, rfl, rfl, ha, hb, hy, hz, q0, q1⟩ := h
  by_cases hx : xs = []
  · subst hx
    cases rx
    cases ry
    obtain ⟨its, r1, p1, _⟩ := I.tuple ha
    obtain ⟨its2, r2, p2, _⟩ := I.tuple hb
    have e1 : its = [] := r1.nil_iff.mpr rfl
    subst e1
    obtain ⟨⟨c1, d1, dt1, s1⟩, o1, k1, n1, h1⟩ := id p1
    obtain ⟨⟨c2, d2, dt2, s2⟩, o2, k2, n2, h2⟩ := id p2
    simp only at k1 h1 k2 h2
    subst k1 h1 k2 h2
    exact concat_meets ⟨_, o1, rfl⟩ ⟨_, o2, rfl⟩ noFill_tuple_add seq_tuple_add PySem.F.slot_tuple_add PySem.F.entry_tuple_add (PySem.F.args_tuple_add_2 _ _) (tuple_addW0 a b #[] its2.toArray n1 n2 d1 d2 s1 s2 rfl) ⟨o1, o2, ⟨.ref b, H, I, rfl, q0 rfl⟩⟩
  · exact op_catT pins s σ H _ _ v u Q I rx ry ⟨a, b, xs, ys, rfl, rfl, ha, hb, hx, hz, fun e => absurd e hy, fun _ => q1 hx⟩
def rCatTH : R2 := fun x y H Q => ∃ a b xs ys, x = .ref a ∧ y = .ref b ∧ H a = some (.tup xs) ∧ H b = some (.tup ys) ∧ ys ≠ [] ∧ xs.length + ys.length ≤ sizeLine ∧ (xs = [] → Q (.ref b) H) ∧ (xs ≠ [] → ∀ p, H p = none → Q (.ref p) (upd H p (.tup (xs ++ ys))))
theorem op_catTH {X : Cx} : OpR X (binaryOp .Add) rCatTH := by
  intro pins s σ H x y v u Q I rx ry h
  obtain ⟨a, b, xs, ys, e1, e2, ha, hb, z⟩ := h
  exact op_catTA pins s σ H x y v u Q I rx ry ⟨a, b, xs, ys, e1, e2, SqT.of ha, SqT.of hb, z⟩
theorem units1 {k : Nat} {A : Around} (r : Room k A) : A.units + 1 < cLine := by
  have := r.units
  omega
/-- d[k], d[k] = v, k in d: entries of numbers -/
def en (p : Nat × Nat) : L2.Key × V := (.inl (p.1 : Int), .int (p.2 : Int))
theorem val_en (m : Nat) : ∀ ws : List (Nat × Nat), (valV (ws.map en) (.inl (m : Int)) = none ∧ ∀ t, (m, t) ∉ ws) ∨ ∃ t, (m, t) ∈ ws ∧ valV (ws.map en) (.inl (m : Int)) = some (.int (t : Int))
  | [] => .inl ⟨rfl, fun _ h => (List.not_mem_nil h).elim⟩
  | (k, b) :: ws => by
    by_cases e : k = m
    · subst e
      exact .inr ⟨b, List.mem_cons_self, valV_pos rfl⟩
    · have ne : ¬ (en (k, b)).1 = (.inl (m : Int) : L2.Key) := fun z => e (by have := Sum.inl.inj z; exact_mod_cast this)
      rw [List.map_cons, valV_neg ne]
      rcases val_en m ws with ⟨h1, h2⟩ | ⟨t, h1, h2⟩
      · refine .inl ⟨h1, fun t ht => ?_⟩
        rcases List.mem_cons.mp ht with z | z
        · exact e (Prod.mk.inj z).1.symm
        · exact h2 t z
      · exact .inr ⟨t, List.mem_cons_of_mem _ h1, h2⟩
theorem put_en {m : Nat} {ws : List (Nat × Nat)} (h : ∀ t, (m, t) ∉ ws) (b : Nat) : putK (ws.map en) (.inl (m : Int)) (.int (b : Int)) = (ws ++ [(m, b)]).map en := by
  unfold putK
  rw [if_neg, List.map_append]
  · rfl
  · rw [Bool.not_eq_true, List.any_eq_false]
    intro x hx z
    obtain ⟨⟨k, c⟩, hk, rfl⟩ := List.mem_map.mp hx
    have e := Sum.inl.inj (of_decide_eq_true z)
    have e : k = m := by exact_mod_cast e
    exact h c (e ▸ hk)
/-- while, by a word that holds a number which falls -/
theorem while_gh {c : TT} {tb : TS} {D : Ends} {σ : L2.St} {H : Hp} (Pv : Nat → L2.St → Hp → Prop) (n0 : Nat) (h0 : Pv n0 σ H)
    (hs : ∀ n σ H, Pv n σ H → c σ H fun b H1 => if b = true then tb { D with nx := fun σ' H' => ∃ n', n' < n ∧ Pv n' σ' H', ct := fun σ' H' => ∃ n', n' < n ∧ Pv n' σ' H', bk := D.nx } σ H1 else D.nx σ H1)
    (mono : ∀ σ H Q Q', (∀ b H1, Q b H1 → Q' b H1) → c σ H Q → c σ H Q') : tWhile c tb D σ H :=
  ⟨Pv, ⟨n0, h0⟩, fun n σ H p => mono σ H _ _ (fun b H1 q => by
    cases b with
    | true => exact ⟨_, fun σ' H' z => z, q⟩
    | false => exact q) (hs n σ H p)⟩
end AK
set_option Elab.async false
set_option linter.all false
set_option maxRecDepth 100000
set_option maxHeartbeats 4000000
namespace AK
open PySem PySem.Spec PyProof.Rows L2 PySem.W
def tI (l : List Nat) : List PyData := l.map fun n : Nat => PyData.int (n : Int)
/-- a row of the length and the numbers, as data -/
def toR (l : List Nat) : PyData := .tuple [.int (l.length : Nat), .tuple (tI l)]
theorem alike_ints : ∀ A B : List Nat, alikeAll (tI A) (tI B) = true
  | [], B => by simp [tI, alikeAll]
  | _ :: _, [] => by simp [tI, alikeAll]
  | a :: A, b :: B => by
    have ih := alike_ints A B
    unfold tI at ih ⊢
    rw [List.map_cons, List.map_cons, alikeAll, ih, alike]
    rfl
theorem alike_toR (A B : List Nat) : alike (toR A) (toR B) = true := by
  unfold toR
  simp [alike, alikeAll, alike_ints A B]
theorem eqv_int (a b : Nat) : PyData.eqv (.int (a : Int)) (.int (b : Int)) = decide (a = b) := by
  rw [PyData.eqv]
  by_cases h : a = b
  · simp [h]
  · have h2 : ¬ (a : Int) = (b : Int) := fun z => h (by exact_mod_cast z)
    simp [h, h2]
theorem eqv_tI : ∀ A B : List Nat, PyData.eqvAll (tI A) (tI B) = decide (A = B)
  | [], [] => rfl
  | [], _ :: _ => by simp [tI, PyData.eqvAll]
  | _ :: _, [] => by simp [tI, PyData.eqvAll]
  | a :: A, b :: B => by
    have ih := eqv_tI A B
    unfold tI at ih ⊢
    rw [List.map_cons, List.map_cons, PyData.eqvAll, ih, eqv_int]
    by_cases h : a = b <;> by_cases h2 : A = B <;> simp [h, h2]
theorem eqv_tup (A B : List Nat) : PyData.eqv (.tuple (tI A)) (.tuple (tI B)) = decide (A = B) := by
  rw [PyData.eqv]
  exact eqv_tI A B
theorem lt_tI : ∀ A B : List Nat, PyProof.Rows.lexLt itemOrd (keyToksAll (tI A)) (keyToksAll (tI B)) = lexL A B
  | [], [] => by decide +kernel
  | [], b :: B => by
    show PyProof.Rows.lexLt itemOrd (.inl 0 :: []) (.inl 1 :: _) = true
    rw [lex_atom (by simp), lex_one]
    decide +kernel
  | a :: A, [] => by
    show PyProof.Rows.lexLt itemOrd (.inl 1 :: _) (.inl 0 :: []) = false
    rw [lex_atom (by simp), lex_one]
    decide +kernel
  | a :: A, b :: B => by
    have ih := lt_tI A B
    have al : alike (.int (a : Int)) (.int (b : Int)) = true := by rw [alike]
    show PyProof.Rows.lexLt itemOrd (keyToksAll (.int (a : Int) :: tI A)) (keyToksAll (.int (b : Int) :: tI B)) = _
    unfold lexL
    by_cases h : a = b
    · rw [dataLt_all_yes al (by rw [eqv_int]; exact decide_eq_true h), ih]
      simp [h]
    · rw [dataLt_all_no al (by rw [eqv_int]; exact decide_eq_false h), dataLt_int]
      simp [h]
theorem lt_toR (A B : List Nat) : dataLt (toR A) (toR B) = ltR A B := by
  unfold toR
  rw [dataLt_tuple]
  have al : alike (.int (A.length : Nat)) (.int (B.length : Nat)) = true := by rw [alike]
  have al2 : alike (.tuple (tI A)) (.tuple (tI B)) = true := by rw [alike]; exact alike_ints A B
  unfold ltR
  by_cases h : A.length = B.length
  · rw [dataLt_all_yes al (by rw [eqv_int]; exact decide_eq_true h)]
    by_cases h2 : A = B
    · rw [dataLt_all_yes al2 (by rw [eqv_tup]; exact decide_eq_true h2), h2]
      have z := ltR_self B
      unfold ltR at z
      rw [z]
      exact lt_tI [] []
    · rw [dataLt_all_no al2 (by rw [eqv_tup]; exact decide_eq_false h2), dataLt_tuple, lt_tI]
      simp [h]
  · rw [dataLt_all_no al (by rw [eqv_int]; exact decide_eq_false h), dataLt_int]
    simp [h]
theorem minD_toR : ∀ (xs : List (List Nat)) (x : List Nat), minD (toR x) (xs.map toR) = toR (minR x xs)
  | [], x => rfl
  | y :: xs, x => by
    have ih := minD_toR xs
    show minD (if dataLt (toR y) (toR x) = true then toR y else toR x) (xs.map toR) = toR (minR (if ltR y x = true then y else x) xs)
    rw [lt_toR]
    split
    · exact ih y
    · exact ih x
theorem alikeAll_toR (xs : List (List Nat)) : AlikeAll (xs.map toR) := by
  refine ⟨fun x hx y hy => ?_, fun x hx => ?_⟩
  · obtain ⟨A, _, rfl⟩ := List.mem_map.mp hx
    obtain ⟨B, _, rfl⟩ := List.mem_map.mp hy
    exact alike_toR A B
  · obtain ⟨A, _, rfl⟩ := List.mem_map.mp hx
    intro z
    cases z
theorem depth_toR : ∀ xs : List (List Nat), PyData.depthAll (xs.map toR) ≤ 5
  | [] => by simp [PyData.depthAll]
  | A :: xs => by
    have h := depth_toR xs
    have h2 := depAll_int A
    simp [PyData.depthAll, PyData.depth, toR, tI]
    omega
theorem tI_inj : ∀ {A B : List Nat}, tI A = tI B → A = B
  | [], [], _ => rfl
  | [], _ :: _, h => by cases h
  | _ :: _, [], h => by cases h
  | a :: A, b :: B, h => by
    obtain ⟨h1, h2⟩ := List.cons.inj (show PyData.int (a : Int) :: tI A = PyData.int (b : Int) :: tI B from h)
    rw [tI_inj h2, show a = b from by have := PyData.int.inj h1; exact_mod_cast this]
theorem toR_inj {A B : List Nat} (h : toR A = toR B) : A = B := by
  unfold toR at h
  have h1 := PyData.tuple.inj h
  have h2 := (List.cons.inj h1).2
  exact tI_inj (PyData.tuple.inj (List.cons.inj h2).1)
end AK
set_option Elab.async false
set_option linter.all false
set_option maxRecDepth 100000
set_option maxHeartbeats 4000000
namespace AK
open PySem PySem.Spec PyProof.Rows L2
/-! ### min(l, default=d) of a list of alike data -/
def tMinDf (K : PySem.W.Frag) (t tk : TA) : TE := fun σ H Q => t σ H fun vs H1 => tk σ H1 fun zs H2 => ∃ (a : Addr) (z : V) (xs : List V) (ds : List PyData), vs = [.ref a] ∧ zs = [z] ∧ SqL K H2 a xs ∧ DpAll K H2 xs ds ∧ PySem.W.AlikeAll ds ∧ PyData.depthAll ds ≤ 60 ∧
  (ds = [] → Q z H2) ∧ ∀ (y : PyData) (ys : List PyData) (i : Nat) (v : V), ds = y :: ys → xs[i]? = some v → ds[i]? = some (PySem.W.minD y ys) → Q v H2
theorem pe_minDf {X : Cx} {e d : Expr} {p pos kpos : Pos} {t tk : TA} (hc : X.calm = true) (hu : X.A.units + 64 < cLine) (hg : Gl X "min") (hm : X.mg "min" = none) (ha : PA X [e] t) (hd : PK X [⟨some "default", d, kpos⟩] tk)
    (he : backTo pos (starEach [e] X.env) = (false, eval e X.env) :: backTo pos (starEach [] X.env) := by rfl) (hpl : (backTo pos (starEach [e] X.env)).any (·.1) = false := by rfl) :
    PE X (.Call (.Name "min" p) [e] [⟨some "default", d, kpos⟩] pos) (tMinDf X.K t tk) := by
  refine ⟨fun pins s σ H Q I h => ?_⟩
  refine wpAny_Call_Name_kw (ld_blt I hg hm (u := .builtin "min") (by decide +kernel) ?_ (by decide) (by decide))
  refine callWith_kw (thn (ha.run pos pins s σ H _ I h) fun us s1 ⟨vs, H1, I1, r, q⟩ => ?_) he hpl rfl rfl
  refine thn (hd.run pos pins s1 σ H1 _ I1 q) fun ws s2 ⟨zs, H2, I2, rz, a, z, xs, ds, ev, ez, hs, hdp, hal, h60, q0, q1⟩ => ?_
  subst ev ez
  rw [Vals.ref1 r]
  obtain ⟨u, rfl, ru⟩ : ∃ u, ws = [u] ∧ RelV z u := by
    cases rz with
    | cons r1 r2 =>
      cases r2
      exact ⟨_, rfl, r1⟩
  obtain ⟨its, rv, pl, hz⟩ := I2.list hs
  obtain ⟨as, hr⟩ := Dp.readsAll I2 ds xs its hdp rv
  refine PySem.W.min_list_default (I2.ok.hd hc) pl.isList (by simpa using hr) hal (by omega) (fun e0 h' tk' hk => ?_) fun y ys i v h' tk' bs e0 hi hm hk => ?_
  · exact ⟨z, H2, I2.kept hk, ru, q0 e0⟩
  · have hi' : its[i]? = some v := by simpa using hi
    obtain ⟨y', hy, ry⟩ := vals_at rv i v hi'
    obtain ⟨bs2, r2, r3, _, _⟩ := PySem.W.readsAll_atA (vs := its.toArray) (by simpa using hr) i v hi
    have e := (reads_det (fun b o e _ => hk b o e) r2 hm).1
    refine ⟨y', H2, I2.kept hk, ry, q1 y ys i y' e0 hy ?_⟩
    rw [e, List.getElem?_eq_getElem r3, List.getD_eq_getElem?_getD, List.getElem?_eq_getElem r3]
    rfl
end AK
set_option Elab.async false
set_option linter.all false
set_option maxRecDepth 100000
set_option maxHeartbeats 4000000
namespace AK
open PySem PySem.Spec PyProof.Rows L2
/-! ### dict comprehensions, folded -/
def contD (g : TG) (tt : TT) (tk tv : TE) (vs : List Nat) (σ : L2.St) (Q : VK) : It → Hp → Prop := fun J H1 => ∀ D, H1 D = none → ∃ W : Nat → Nat → Hp → Prop, (∃ m, W 0 m (upd H1 D (.dK []))) ∧ ∀ i m H, W i m H →
  (J.stop i H ∧ Q (.ref D) H) ∨ (J.go i H ∧ ∃ Nx : Hp → Prop, (∀ H', Nx H' → ∃ m', m' < m ∧ W (i + 1) m' H') ∧ ∀ x H', J.yld i H x H' → g x (wipe σ vs) H' fun σ2 H2 => wipe σ2 vs = wipe σ vs ∧ tt σ2 H2 fun b H3 =>
    if b = true then tk σ2 H3 fun y H4 => tv σ2 H4 fun z H5 => ∃ kvs k, y = kV k ∧ H5 D = some (.dK kvs) ∧ kvs.length < sizeLine ∧ Nx (upd H5 D (.dK (putK kvs k z))) else Nx H3)
theorem tDc_c {wi : TI} {g : TG} {tt : TT} {tk tv : TE} {vs : List Nat} {σ : L2.St} {H : Hp} {Q : VK} : tDc wi g tt tk tv vs σ H Q = wi σ H (contD g tt tk tv vs σ Q) := rfl
/-! ### sorted(l) of alike data -/
theorem dpAll_of {K : PySem.W.Frag} {H : Hp} {β : Type} {val : β → V} {enc : β → PyData} : ∀ {bs : List β}, (∀ b ∈ bs, Dp K H (val b) (enc b)) → DpAll K H (bs.map val) (bs.map enc)
  | [], _ => .nil
  | b :: bs, h => .cons (h b List.mem_cons_self) (dpAll_of fun c hc => h c (List.mem_cons_of_mem _ hc))
theorem each_of {β : Type} {val : β → V} : ∀ {bs : List β} {us : List Value}, Vals (bs.map val) us → PySem.W.EachIs (fun u b => RelV (val b) u) us bs
  | [], _, .nil => .nil
  | b :: bs, _, .cons r rs => .cons r (each_of rs)
theorem of_each {β : Type} {val : β → V} : ∀ {bs : List β} {us : List Value}, PySem.W.EachIs (fun u b => RelV (val b) u) us bs → Vals (bs.map val) us
  | _, _, .nil => .nil
  | _, _, .cons r rs => .cons r (of_each rs)
def rSortedD (K : PySem.W.Frag) : List V → Hp → VK → Prop := fun vs H Q => ∃ (a : Addr) (β : Type) (bs : List β) (val : β → V) (enc : β → PyData), vs = [V.ref a] ∧ SqL K H a (bs.map val) ∧ (∀ b ∈ bs, Dp K H (val b) (enc b)) ∧ PySem.W.AllAlike (bs.map enc) ∧ PySem.W.Sortable (bs.map enc) ∧ (∀ b ∈ bs, (enc b).depth ≤ 50) ∧
  ∀ p, H p = none → Q (.ref p) (upd H p (.lst ((bs.mergeSort (PySem.W.dataLe false enc)).map val)))
theorem cr_sortedD {X : Cx} (hu : X.A.units + 64 < cLine) : CallR X (.builtin "sorted") (rSortedD X.K) := by
  intro pins s σ H vs us Q I r h
  obtain ⟨a, β, bs, val, enc, rfl, hs, hd, hal, hk, h50, q⟩ := h
  obtain ⟨its, rv, hl, hz⟩ := I.list hs
  rw [Vals.ref1 r]
  obtain ⟨as, hr⟩ := Dp.readsAll I (bs.map enc) (bs.map val) its (dpAll_of hd) rv
  have er := PySem.W.readsAll_each enc hr
  have ee := each_of rv
  have hz' : bs.length ≤ sizeLine := by
    rw [List.length_map] at hz
    exact hz
  refine PySem.W.sorted_data hl.isList ee er hal hk hz' (fun b hb => by have := h50 b hb; omega) fun out hlen hout => ?_
  have ov := of_each hout
  obtain ⟨ep, he'⟩ := PyProof.Rows.sortedAll_at s.heap its out.toArray
  refine ⟨.ref _, upd H (s.heap.objs.size + 1) (.lst ((bs.mergeSort (PySem.W.dataLe false enc)).map val)), I.laid (t' := s.toks) (fun _ _ => PyProof.Rows.sortedAll_old) (Nat.le_succ _) ⟨?_, out, ep, ov, he'⟩, rfl, q _ (I.hok.fresh (Nat.le_succ _))⟩
  rw [List.length_map, (List.mergeSort_perm _ _).length_eq]
  exact hz'
/-! ### all sets of nodes, in order -/
def combs : Nat → List Nat → List (List Nat)
  | 0, _ => [[]]
  | _ + 1, [] => []
  | k + 1, x :: l => (combs k l).map (x :: ·) ++ combs (k + 1) l
/-- the sets of the first n nodes -/
def osets (n : Nat) : List (List Nat) := (List.range n).flatMap fun s => combs (s + 1) ((List.range n).map (65 + ·))
def fndP (L : List Nat) : List (List Nat) := L.foldl (fun F c => F ++ F.map (· ++ [c])) [[]]
def fnd (n : Nat) : List (List Nat) := fndP ((List.range n).map (65 + ·))
theorem fnd_succ (n : Nat) : fnd (n + 1) = fnd n ++ (fnd n).map (· ++ [65 + n]) := by
  unfold fnd fndP
  rw [List.range_succ, List.map_append, List.foldl_append]
  rfl
theorem fnd_b_all : (List.range 7).all (fun n => decide ((fnd n).length ≤ 64) && (fnd n).all fun l => decide (l.length ≤ 6)) = true := by decide +kernel
theorem fnd_b {n : Nat} (h : n ≤ 6) : (fnd n).length ≤ 64 ∧ ∀ l ∈ fnd n, l.length ≤ 6 := by
  have z := List.all_eq_true.mp fnd_b_all n (List.mem_range.mpr (by omega))
  rw [Bool.and_eq_true] at z
  exact ⟨of_decide_eq_true z.1, fun l hl => of_decide_eq_true (List.all_eq_true.mp z.2 l hl)⟩
abbrev tsL (F : List (List Nat)) : List V := F.map fun l => V.str (tx l)
theorem tsL_at {F : List (List Nat)} {i : Nat} {x : V} (h : (tsL F)[i]? = some x) : ∃ l, F[i]? = some l ∧ x = V.str (tx l) := map_at h
/-- smaller sets first, then letter by letter -/
def leS (a b : List Nat) : Bool := if a.length = b.length then decide (a ≤ b) else decide (a.length < b.length)
theorem osets_b_all : (List.range 7).all (fun n => (osets n).all fun s => !s.isEmpty && s.all fun c => decide (65 ≤ c ∧ c < 65 + n)) = true := by decide +kernel
theorem osets_b {n : Nat} (h : n ≤ 6) {s : List Nat} (hs : s ∈ osets n) : s ≠ [] ∧ ∀ c ∈ s, 65 ≤ c ∧ c < 65 + n := by
  have z := List.all_eq_true.mp (List.all_eq_true.mp osets_b_all n (List.mem_range.mpr (by omega))) s hs
  rw [Bool.and_eq_true] at z
  refine ⟨fun e => ?_, fun c hc => of_decide_eq_true (List.all_eq_true.mp z.2 c hc)⟩
  rw [e] at z
  cases z.1
theorem leS_total : PySem.W.TotalLe leS := by
  refine ⟨fun a b c h1 h2 => ?_, fun a b => ?_⟩
  · unfold leS at *
    by_cases e1 : a.length = b.length
    · rw [if_pos e1] at h1
      by_cases e2 : b.length = c.length
      · rw [if_pos e2] at h2
        rw [if_pos (e1.trans e2)]
        exact decide_eq_true (List.le_trans (of_decide_eq_true h1) (of_decide_eq_true h2))
      · rw [if_neg e2] at h2
        rw [if_neg (by omega)]
        have := of_decide_eq_true h2
        exact decide_eq_true (by omega)
    · rw [if_neg e1] at h1
      have h1 := of_decide_eq_true h1
      by_cases e2 : b.length = c.length
      · rw [if_neg (by omega)]
        exact decide_eq_true (by omega)
      · rw [if_neg e2] at h2
        have h2 := of_decide_eq_true h2
        rw [if_neg (by omega)]
        exact decide_eq_true (by omega)
  · unfold leS
    by_cases e : a.length = b.length
    · rw [if_pos e, if_pos e.symm]
      rcases List.le_total a b with h | h
      · exact .inl (decide_eq_true h)
      · exact .inr (decide_eq_true h)
    · rw [if_neg e, if_neg (fun z => e z.symm)]
      by_cases h : a.length < b.length
      · exact .inl (decide_eq_true h)
      · exact .inr (decide_eq_true (by omega))
theorem leS_anti {a b : List Nat} (h1 : leS a b = true) (h2 : leS b a = true) : a = b := by
  unfold leS at *
  by_cases e : a.length = b.length
  · rw [if_pos e] at h1
    rw [if_pos e.symm] at h2
    exact List.le_antisymm (of_decide_eq_true h1) (of_decide_eq_true h2)
  · rw [if_neg e] at h1
    rw [if_neg (fun z => e z.symm)] at h2
    have := of_decide_eq_true h1
    have := of_decide_eq_true h2
    omega
theorem osets_all : (List.range 7).all (fun n => ((fnd n).filter (fun l => !l.isEmpty)).isPerm (osets n) && decide ((osets n).Pairwise fun a b => leS a b = true)) = true := by decide +kernel
theorem osets_sort {n : Nat} (h : n ≤ 6) : ((fnd n).filter (fun l => !l.isEmpty)).mergeSort leS = osets n := by
  have z := List.all_eq_true.mp osets_all n (List.mem_range.mpr (by omega))
  rw [Bool.and_eq_true] at z
  exact List.Perm.eq_of_pairwise (le := fun a b => leS a b = true) (fun a b _ _ h1 h2 => leS_anti h1 h2) (PySem.W.sort_pairwise leS_total _) (of_decide_eq_true z.2) ((List.mergeSort_perm _ _).trans (List.isPerm_iff.mp z.1))
/-- (len(x), x) as data -/
def encS (l : List Nat) : PyData := .tuple [.int (l.length : Nat), .str (tx l)]
theorem encS_le : PySem.W.dataLe false encS = leS := by
  funext a b
  have al : ∀ x y : Int, PySem.W.alike (.int x) (.int y) = true := fun x y => by rw [PySem.W.alike]
  have as : ∀ x y : Str, PySem.W.alike (.str x) (.str y) = true := fun x y => by rw [PySem.W.alike]
  show (!PySem.W.dataLt (encS b) (encS a)) = _
  unfold encS leS
  rw [PySem.W.dataLt_pair (al _ _) (as _ _), PySem.W.dataLt_int, PySem.W.dataLt_str]
  have e1 : PyData.eqv (.int (b.length : Nat)) (.int (a.length : Nat)) = decide (a.length = b.length) := by
    rw [PyData.eqv]
    by_cases h : a.length = b.length
    · simp [h]
    · have h2 : ¬ (b.length : Int) = (a.length : Int) := fun z => h (by exact_mod_cast z.symm)
      simp [h, h2]
  have e2 : PyData.eqv (.str (tx b)) (.str (tx a)) = decide (a = b) := by
    rw [PyData.eqv]
    by_cases h : a = b
    · simp [h]
    · have h2 : ¬ tx b = tx a := fun z => h (tx_inj z).symm
      simp [h, h2]
  rw [e1, e2]
  by_cases h : a.length = b.length
  · rw [decide_eq_true h, if_pos rfl, if_pos h]
    by_cases h2 : a = b
    · rw [decide_eq_true h2, if_pos rfl, h2]
      exact (decide_eq_true (List.le_refl b)).symm
    · rw [decide_eq_false h2, if_neg (by decide)]
      show (!decide (lt (tx b) < lt (tx a))) = _
      rw [lt_tx, lt_tx, ← decide_not]
      exact decide_eq_decide.mpr Iff.rfl
  · rw [decide_eq_false h, if_neg (by decide), if_neg h, ← decide_not]
    exact decide_eq_decide.mpr (by omega)
theorem alike_encS (ls : List (List Nat)) : PySem.W.AllAlike (ls.map encS) := PySem.W.AllAlike.of fun a b => by
  unfold encS
  simp [PySem.W.alike, PySem.W.alikeAll]
theorem sortable_encS (ls : List (List Nat)) : PySem.W.Sortable (ls.map encS) := PySem.W.Sortable.tuples fun b => ⟨_, _, rfl⟩
end AK
set_option Elab.async false
set_option linter.all false
set_option maxRecDepth 100000
set_option maxHeartbeats 4000000
namespace AK
open PySem PySem.Spec PyProof.Rows L2
/-! ### a, b = a text of two signs -/
section
variable {prog : Program} {w : World} {A : Around} {E : Value → Shared → Prop} {s : Shared}
theorem unpack_str2 {c d : Nat} {t : Tok} {Q : List Value → Shared → Prop} (hh : A.handled = none) (hc : c < 128) (hd : d < 128)
    (hQ : ∀ h' tk t1 t2, (∀ b o, s.heap.get? b = some o → h'.get? b = some o) → Q [.str ⟨#[c]⟩ t1, .str ⟨#[d]⟩ t2] { s with heap := h', toks := tk }) : wpAny (model prog w) A (unpackItems (.str (tx [c, d]) t) 2 none) Q E s := by
  have ha : (tx [c, d]).cps.all (· < 128) = true := by
    show (#[c, d] : Array Nat).all (· < 128) = true
    simp [hc, hd]
  unfold unpackItems
  refine wpAny_bind ?_
  unfold notIterableAtAll
  refine wpAny_bind (wpAny_specialOf (typeIs_str s (tx [c, d]) t) F.slot_str_iter.lookup ?_)
  refine wpAny_pure ?_
  simp only [Bool.false_eq_true, if_false]
  refine wpAny_bind (wpAny_holding (wpAny_pyIter_ascii ha ?_))
  have g0 : (s.heap.push { cls := .type "str_ascii_iterator", data := .fields #[.str (tx [c, d]) t, .int 0 0] }).IsStrIter s.heap.objs.size "str_ascii_iterator" (tx [c, d]) t 0 := ⟨_, Heap.get?_push_size _ rfl, rfl, rfl⟩
  have old0 : ∀ b o, s.heap.get? b = some o → (s.heap.push { cls := .type "str_ascii_iterator", data := .fields #[.str (tx [c, d]) t, .int 0 0] }).get? b = some o := fun b o e => Heap.get?_push_of_some _ e
  have ne : ∀ b o, s.heap.get? b = some o → b ≠ s.heap.objs.size := fun b o e => Nat.ne_of_lt (Heap.lt_size e)
  refine wpAny_bind (wpAny_holding (wpAny_bind (wpAny_pyNext_ascii_item g0 (c := c) rfl fun h1 g1 b1 => ?_)))
  refine wpAny_bind (wpAny_holding (wpAny_bind (wpAny_pyNext_ascii_item g1 (c := d) rfl fun h2 g2 b2 => ?_)))
  refine wpAny_bind (wpAny_holding (wpAny_pure (wpAny_pure (wpAny_pure ?_))))
  rw [if_neg (by simp)]
  refine wpAny_bind (wpAny_holding (wpAny_pyNext_ascii_end hh g2 rfl fun h3 b3 => ?_))
  simp only [Option.isSome_none, Bool.false_eq_true, if_false]
  exact wpAny_pure (hQ h3 _ _ _ fun b o e => b3 b o (ne b o e) (b2.extBut b o (ne b o e) (b1.extBut b o (ne b o e) (old0 b o e))))
end
section
variable {X : Cx}
def gStr2 (t : TGs) : TG := fun v σ H Q => ∃ c d, v = .str (tx [c, d]) ∧ c < 128 ∧ d < 128 ∧ t [.str (tx [c]), .str (tx [d])] σ H Q
theorem pg_str2 {es : List Expr} {k : Nat} {t : TGs} (hc : X.calm = true) (h : PGs X es t)
    (hn : (assignEach es X.env).length = 2 := by rfl) (hst : (assignEach es X.env).findIdx? (·.1) = none := by rfl) : PG X (.Tuple es k pos) (gStr2 t) := by
  refine ⟨fun pins s σ H v u Q I r hw => ?_⟩
  obtain ⟨c, d, e1, hc1, hd1, hw⟩ := hw
  subst e1
  obtain ⟨tk, rfl⟩ := r
  rw [PyProof.Rows.assign_Tuple]
  refine wpAny_bind (wpAny_standAt ?_)
  unfold unpack
  rw [hn, hst]
  refine wpAny_bind (wpAny_holding (unpack_str2 (I.ok.hd hc) hc1 hd1 fun h' tk' t1 t2 hx => ?_))
  have I1 : Inv X pins σ H { s with heap := h', toks := tk' } := I.kept hx
  exact h.run pins _ σ H [V.str (tx [c]), V.str (tx [d])] _ Q I1 (.cons ⟨t1, rfl⟩ (.cons ⟨t2, rfl⟩ .nil)) hw
/-- a, b = a list or a tuple of two -/
def gSeqH (n : Nat) (t : TGs) : TG := fun v σ H Q => ∃ a xs, v = .ref a ∧ RowAt H a xs ∧ xs.length = n ∧ t xs σ H Q
theorem pg_seqH {es : List Expr} {k : Nat} {t : TGs} {n : Nat} (hc : X.calm = true) (h : PGs X es t)
    (hn : (assignEach es X.env).length = n := by rfl) (hst : (assignEach es X.env).findIdx? (·.1) = none := by rfl) : PG X (.Tuple es k pos) (gSeqH n t) :=
  ⟨fun pins s σ H v u Q I r hw => by
    obtain ⟨a, xs, e1, e2, e3, e4⟩ := hw
    rcases e2 with e2 | e2
    · exact (pg_unl hc h hn hst).run pins s σ H v u Q I r ⟨a, xs, e1, SqL.of e2, e3, e4⟩
    · exact (pg_tup hc h hn hst).run pins s σ H v u Q I r ⟨a, xs, e1, SqT.of e2, e3, e4⟩⟩
end
end AK
set_option Elab.async false
set_option linter.all false
set_option maxRecDepth 100000
set_option maxHeartbeats 4000000
namespace AK
open PySem PySem.Spec PyProof.Rows L2
/-- name = {..} on one line, the name a local -/
theorem ps_setDc {X : Cx} {i : Nat} {y : Str} {py : Pos} {kx vx tg iter : Expr} {ifs : List Expr} {scope : Scope} {own : List (Str × Nat)} {pos spos : Pos} {wi : TI} {g : TG} {tt : TT} {tk tv : TE} (hc : X.calm = true) (hN : X.N.Nodup) (hy : X.N[i]? = some y) (hyl : X.env.scope.names.lookup y = some .local)
    (hsw : swapsWith (.DictComp kx vx [⟨tg, iter, ifs, 0⟩] scope pos) (some (.Name y py)) spos.line X.env = pure true) (hi : PI X tg iter wi) (ok : BlkOk X.N X.env.scope scope own)
    (hg : ∀ (s : Shared) (H : Hp) (C : Addr) (cl : List (Str × Addr)) (fp : List Addr), PG (X.blk s H scope (compEnvC scope cl C X.env) fp) tg g) (ht : ∀ (s : Shared) (H : Hp) (C : Addr) (cl : List (Str × Addr)) (fp : List Addr), PTs (X.blk s H scope (compEnvC scope cl C X.env) fp) ifs tt)
    (hk : ∀ (s : Shared) (H : Hp) (C : Addr) (cl : List (Str × Addr)) (fp : List Addr), PE (X.blk s H scope (compEnvC scope cl C X.env) fp) kx tk)
    (he : ∀ (s : Shared) (H : Hp) (C : Addr) (cl : List (Str × Addr)) (fp : List Addr), PE (X.blk s H scope (compEnvC scope cl C X.env) fp) vx tv) (hs : ∀ x, foldedSetIterable iter X.env x = pure x := by intro _; rfl) :
    PS X (.Assign [.Name y py] (.DictComp kx vx [⟨tg, iter, ifs, 0⟩] scope pos) spos) (tAsg (tDc wi g tt tk tv (own.map (·.2))) (gName i)) := by
  refine ⟨fun pins s σ H D I h => ?_⟩
  rw [exec_Assign_Name_used _ _ _ _ hsw]
  refine wpAny_bind (wpAny_standAt (wpAny_bind ?_))
  show wpAny _ X.A (do let _ ← comprehension (.DictComp kx vx [⟨tg, iter, ifs, 0⟩] scope pos) scope X.env (firstIterPos [⟨tg, iter, ifs, 0⟩] pos) newDict false (eval iter X.env) (some (assign (.Name y py) X.env))) _ _ s
  have h : tDc wi g tt tk tv (own.map (·.2)) σ H (fun x H1 => gName i x σ H1 D.nx) := h
  refine wpAny_bind (thn (dc_core (Qf := fun _ s' => SP X pins D .next s') hc hN I hi ok hg ht hk he hs h fun L C s' m H' I' q hn f => ?_) fun _ s' hq => wpAny_pure (wpAny_pure hq))
  show wpAny _ _ (assign (.Name y py) X.env (.ref L)) _ _ _
  refine wpAny_assign_Name (store_ok2 (v := V.ref L) I' hN hy (.inl hyl) rfl (fun s2 I2 ⟨a, sb, ha⟩ => ?_) (.inr hyl))
  obtain ⟨f0, f1, f2, f3, f4, f5⟩ := f
  have haC : C ≠ a := by
    rcases ha with z | z
    · rw [z]; exact f1
    · exact fun e => f4 y a z e.symm
  refine ⟨m, hn.sameBut sb haC, fun h3 sb3 => ?_⟩
  exact ⟨_, H', I2.turned (t' := s2.toks) (fun b o hb e => (sb3.2 b hb).trans e) f0 f1 f3 f4 f5, q⟩
theorem sw_trueD {kx vx : Expr} {gs : List Comprehension} {scope : Scope} {pos py : Pos} {y : Str} {l : Nat} {env : Env} (hk : env.scope.kind = .function) (hy : env.scope.names.lookup y = some .local) (hl : (py.line == pos.line) = true)
    (ha : (scope.names.any fun (n, k) => n == y && (k == .local || k == .cell)) = false) : swapsWith (.DictComp kx vx gs scope pos) (some (.Name y py)) l env = pure true := by
  have ky : env.kindOf y = some .local := hy
  have hb : env.blockKind = .function := by unfold Env.blockKind; rw [hk]; rfl
  unfold swapsWith
  simp only [hb, ky, ha, Expr.pos, hl]
  rfl
section
variable {g : TG} {σ : L2.St} {H : Hp} {tt : TT} {tk tv : TE} {vs : List Nat} {Q : VK}
theorem dcStr {x : Str} (Pv : Nat → Addr → Hp → Prop) (h0 : ∀ D, H D = none → Pv 0 D (upd H D (.dK [])))
    (hs : ∀ i c D H', H D = none → (lt x)[i]? = some c → Pv i D H' → g (.str (tx [c])) (wipe σ vs) H' fun σ2 H2 => wipe σ2 vs = wipe σ vs ∧ tt σ2 H2 fun b H3 => if b = true then tk σ2 H3 fun y H4 => tv σ2 H4 fun z H5 => ∃ kvs k, y = kV k ∧ H5 D = some (.dK kvs) ∧ kvs.length < sizeLine ∧ Pv (i + 1) D (upd H5 D (.dK (putK kvs k z))) else Pv (i + 1) D H3)
    (hd : ∀ D H', H D = none → Pv (lt x).length D H' → Q (.ref D) H') : contD g tt tk tv vs σ Q (Its x) H := by
  intro D hD
  have hz : (lt x).length = x.cps.size := Array.length_toList ..
  refine ⟨fun i m H' => m = x.cps.size - i ∧ i ≤ x.cps.size ∧ Pv i D H', ⟨x.cps.size, by simp, Nat.zero_le _, h0 D hD⟩, ?_⟩
  rintro i m H' ⟨rfl, hi, p⟩
  by_cases hlt : i < x.cps.size
  · refine .inr ⟨hlt, fun H' => Pv (i + 1) D H', fun H' p' => ⟨x.cps.size - (i + 1), by omega, rfl, hlt, p'⟩, fun y H2 hy => ?_⟩
    obtain ⟨rfl, c, hc, rfl⟩ := hy
    exact hs i c D _ hD (by show x.cps.toList[i]? = some c; rw [Array.getElem?_toList]; exact hc) p
  · have e : i = x.cps.size := by omega
    subst e
    exact .inl ⟨Nat.le_refl _, hd D H' hD (by rw [hz]; exact p)⟩
theorem dcItems {d : Addr} {o : Obj} {kvs : List (L2.Key × V)} (Pv : Nat → Addr → Hp → Prop) (h0 : ∀ D, H D = none → Pv 0 D (upd H D (.dK []))) (hk : ∀ i D H', H D = none → Pv i D H' → H' d = some (.frz o (.dK kvs)))
    (hs : ∀ i k x t D H', H D = none → kvs[i]? = some (k, x) → Pv i D H' → H' t = none → g (.ref t) (wipe σ vs) (upd H' t (.tup [kV k, x])) fun σ2 H2 => wipe σ2 vs = wipe σ vs ∧ tt σ2 H2 fun b H3 => if b = true then tk σ2 H3 fun y H4 => tv σ2 H4 fun z H5 => ∃ kvs k, y = kV k ∧ H5 D = some (.dK kvs) ∧ kvs.length < sizeLine ∧ Pv (i + 1) D (upd H5 D (.dK (putK kvs k z))) else Pv (i + 1) D H3)
    (hd : ∀ D H', H D = none → Pv kvs.length D H' → Q (.ref D) H') : contD g tt tk tv vs σ Q (Iti d o kvs) H := by
  intro D hD
  refine ⟨fun i m H' => m = kvs.length - i ∧ i ≤ kvs.length ∧ Pv i D H', ⟨kvs.length, by simp, Nat.zero_le _, h0 D hD⟩, ?_⟩
  rintro i m H' ⟨rfl, hi, p⟩
  have hfz := hk i D H' hD p
  by_cases hlt : i < kvs.length
  · refine .inr ⟨⟨hfz, hlt⟩, fun H' => Pv (i + 1) D H', fun H' p' => ⟨kvs.length - (i + 1), by omega, rfl, hlt, p'⟩, fun y H2 hy => ?_⟩
    obtain ⟨t, k, x, hx, rfl, ht, rfl⟩ := hy
    exact hs i k x t D H' hD hx p ht
  · have e : i = kvs.length := by omega
    subst e
    exact .inl ⟨⟨hfz, Nat.le_refl _⟩, hd D H' hD p⟩
end
/-! ### a dict by the nodes' letters -/
/-- its entries: the letters from the j-th on -/
def hadF : Nat → List V → List (L2.Key × V)
  | _, [] => []
  | j, v :: r => (.inr (tx [65 + j]), v) :: hadF (j + 1) r
theorem hadF_app : ∀ (l m : List V) (j : Nat), hadF j (l ++ m) = hadF j l ++ hadF (j + l.length) m
  | [], m, j => rfl
  | v :: l, m, j => by
    rw [List.cons_append, hadF, hadF, hadF_app l m (j + 1), List.cons_append, List.length_cons, show j + 1 + l.length = j + (l.length + 1) from by omega]
theorem hadF_len : ∀ (l : List V) (j : Nat), (hadF j l).length = l.length
  | [], _ => rfl
  | v :: l, j => by rw [hadF, List.length_cons, List.length_cons, hadF_len l]
theorem hadF_at : ∀ (l : List V) (j i : Nat), (hadF j l)[i]? = (l[i]?).map fun v => ((.inr (tx [65 + (j + i)]) : L2.Key), v)
  | [], _, _ => rfl
  | v :: l, j, 0 => rfl
  | v :: l, j, i + 1 => by
    rw [hadF, List.getElem?_cons_succ, List.getElem?_cons_succ, hadF_at l (j + 1) i, show j + 1 + i = j + (i + 1) from by omega]
theorem key_ne {a b : Nat} (h : a ≠ b) : ¬ (.inr (tx [65 + a]) : L2.Key) = .inr (tx [65 + b]) := fun z => h (by
  have := (List.cons.inj (tx_inj (Sum.inr.inj z))).1
  omega)
theorem hadF_val : ∀ (l : List V) (j i : Nat), valV (hadF j l) (.inr (tx [65 + (j + i)])) = l[i]?
  | [], _, _ => rfl
  | v :: l, j, 0 => by rw [Nat.add_zero, hadF, valV_pos rfl]; rfl
  | v :: l, j, i + 1 => by
    rw [hadF, valV_neg (key_ne (by omega)), List.getElem?_cons_succ, show j + (i + 1) = j + 1 + i from by omega]
    exact hadF_val l (j + 1) i
theorem hadF_put (l : List V) (v : V) : putK (hadF 0 l) (.inr (tx [65 + l.length])) v = hadF 0 (l ++ [v]) := by
  have z := hadF_val l 0 l.length
  rw [Nat.zero_add, List.getElem?_eq_none (Nat.le_refl _)] at z
  rw [putK_new v z, hadF_app, Nat.zero_add]
  rfl
/-- what the nodes have: a dict of lists of numbers -/
structure HadAt (H : Hp) (h : Addr) (had : List (List Nat)) : Prop where
  ex : ∃ as : List Addr, H h = some (.dK (hadF 0 (as.map V.ref))) ∧ as.length = had.length ∧ as.Nodup ∧ ∀ (i : Nat) (r : List Nat) (t : Addr), had[i]? = some r → as[i]? = some t → H t = some (.lst (ni r))
theorem HadAt.same {H H' : Hp} {h : Addr} {had : List (List Nat)} (x : HadAt H h had) (s : Same H H') : HadAt H' h had := by
  obtain ⟨as, h1, h2, h3, h4⟩ := x.ex
  exact ⟨as, s _ _ h1, h2, h3, fun i r t e1 e2 => s _ _ (h4 i r t e1 e2)⟩
/-- a node's list -/
theorem HadAt.get {H : Hp} {h : Addr} {had : List (List Nat)} (x : HadAt H h had) {i : Nat} {r : List Nat} (hr : had[i]? = some r) : ∃ t, H t = some (.lst (ni r)) ∧ ∀ H', Same H H' → DGet H' h (.str (tx [65 + i])) (some (.ref t)) := by
  obtain ⟨as, h1, h2, h3, h4⟩ := x.ex
  have hi : i < as.length := by
    rw [h2]
    exact (List.getElem?_eq_some_iff.mp hr).1
  have ha : as[i]? = some as[i] := List.getElem?_eq_getElem hi
  refine ⟨as[i], h4 i r _ hr ha, fun H' s => .inl ⟨_, .inr (tx [65 + i]), .inl (s _ _ h1), rfl, ?_⟩⟩
  have z := hadF_val (as.map V.ref) 0 i
  rw [Nat.zero_add] at z
  rw [z, List.getElem?_map, ha]
  rfl
/-- a number more at a node -/
theorem HadAt.put {H : Hp} {h : Addr} {had : List (List Nat)} (x : HadAt H h had) {i : Nat} {r : List Nat} (hr : had[i]? = some r) : ∃ t, H t = some (.lst (ni r)) ∧ DGet H h (.str (tx [65 + i])) (some (.ref t)) ∧ ∀ m : Nat, HadAt (upd H t (.lst (ni r ++ [V.int (m : Int)]))) h (had.set i (r ++ [m])) := by
  obtain ⟨as, h1, h2, h3, h4⟩ := x.ex
  have hi : i < as.length := by
    rw [h2]
    exact (List.getElem?_eq_some_iff.mp hr).1
  have ha : as[i]? = some as[i] := List.getElem?_eq_getElem hi
  have ht := h4 i r _ hr ha
  refine ⟨as[i], ht, .inl ⟨_, .inr (tx [65 + i]), .inl h1, rfl, ?_⟩, fun m => ⟨as, ?_, by rw [List.length_set, h2], h3, fun j q t e1 e2 => ?_⟩⟩
  · have z := hadF_val (as.map V.ref) 0 i
    rw [Nat.zero_add] at z
    rw [z, List.getElem?_map, ha]
    rfl
  · rw [upd_ne (fun z => by rw [z, ht] at h1; cases h1)]
    exact h1
  · by_cases hij : i = j
    · subst hij
      rw [ha] at e2
      cases Option.some.inj e2
      rw [List.getElem?_set_self (by omega)] at e1
      cases Option.some.inj e1
      rw [upd_same, ni_snoc]
    · rw [List.getElem?_set_ne hij] at e1
      have : t ≠ as[i] := fun z => by
        subst z
        have e3 := ha.trans e2.symm
        exact hij ((List.getElem?_inj hi h3).mp e3)
      rw [upd_ne this]
      exact h4 j q t e1 e2
end AK
set_option Elab.async false
set_option linter.all false
set_option maxRecDepth 100000
set_option maxHeartbeats 4000000
namespace AK
open PySem PySem.Spec PyProof.Rows L2
/-- what an expression gives is locked from there on -/
def tFrz (td : TE) : TE := fun σ H Q => td σ H fun x H1 => ∃ d u, x = .ref d ∧ H1 d = some u ∧ Mut (some u) ∧ ∀ od, Q x (upd H1 d (.frz od u))
theorem pe_frz {X : Cx} {e : Expr} {td : TE} (he : PE X e td) : PE X e (tFrz td) := by
  refine ⟨fun pins s σ H Q I hw => ?_⟩
  refine thn (he.run pins s σ _ _ I hw) fun v s1 ⟨x, H1, I1, r, d, u, ex, hd, mu, q⟩ => ?_
  obtain ⟨od, I2⟩ := I1.lock hd mu
  exact ⟨x, _, I2, r, q od⟩
end AK
set_option Elab.async false
set_option linter.all false
set_option maxRecDepth 100000
set_option maxHeartbeats 4000000
namespace AK
open PySem PySem.Spec PyProof.Rows L2
/-! ### a dict by sets of letters -/
def kvZ : List (List Nat) → List V → List (L2.Key × V)
  | s :: ss, v :: vs => (.inr (tx s), v) :: kvZ ss vs
  | _, _ => []
theorem kvZ_len : ∀ (ss : List (List Nat)) (vs : List V), ss.length = vs.length → (kvZ ss vs).length = ss.length
  | [], [], _ => rfl
  | s :: ss, v :: vs, h => by rw [kvZ, List.length_cons, List.length_cons, kvZ_len ss vs (by simpa using h)]
  | [], _ :: _, h => by cases h
  | _ :: _, [], h => by cases h
theorem kvZ_ne {a b : List Nat} (h : a ≠ b) : ¬ (.inr (tx a) : L2.Key) = .inr (tx b) := fun z => h (tx_inj (Sum.inr.inj z))
theorem kvZ_none : ∀ (ss : List (List Nat)) (vs : List V) {s : List Nat}, s ∉ ss → valV (kvZ ss vs) (.inr (tx s)) = none
  | [], [], _, _ => rfl
  | [], _ :: _, _, _ => rfl
  | _ :: _, [], _, _ => rfl
  | t :: ss, v :: vs, s, h => by
    rw [kvZ, valV_neg (kvZ_ne fun z => h (by rw [z]; exact List.mem_cons_self))]
    exact kvZ_none ss vs fun z => h (List.mem_cons_of_mem _ z)
theorem kvZ_val : ∀ (ss : List (List Nat)) (vs : List V) {i : Nat} {s : List Nat}, ss.Nodup → ss[i]? = some s → ss.length = vs.length → valV (kvZ ss vs) (.inr (tx s)) = vs[i]?
  | t :: ss, v :: vs, 0, s, hn, h, hl => by
    cases Option.some.inj h
    rw [kvZ, valV_pos rfl]
    rfl
  | t :: ss, v :: vs, i + 1, s, hn, h, hl => by
    obtain ⟨h1, h2⟩ := List.nodup_cons.mp hn
    rw [List.getElem?_cons_succ] at h
    rw [kvZ, valV_neg (kvZ_ne fun z => h1 (by rw [z]; exact List.mem_of_getElem? h)), List.getElem?_cons_succ]
    exact kvZ_val ss vs h2 h (by simpa using hl)
  | [], _, _, _, _, h, _ => by cases h
  | _ :: _, [], _, _, _, _, hl => by cases hl
theorem kvZ_app : ∀ (ss : List (List Nat)) (vs : List V) (s : List Nat) (v : V), ss.length = vs.length → kvZ (ss ++ [s]) (vs ++ [v]) = kvZ ss vs ++ [(.inr (tx s), v)]
  | [], [], _, _, _ => rfl
  | t :: ss, w :: vs, s, v, h => by rw [List.cons_append, List.cons_append, kvZ, kvZ, kvZ_app ss vs s v (by simpa using h), List.cons_append]
  | [], _ :: _, _, _, h => by cases h
  | _ :: _, [], _, _, h => by cases h
theorem kvZ_put {ss : List (List Nat)} {vs : List V} {s : List Nat} (v : V) (h : s ∉ ss) (hl : ss.length = vs.length) : putK (kvZ ss vs) (.inr (tx s)) v = kvZ (ss ++ [s]) (vs ++ [v]) := by
  rw [putK_new v (kvZ_none ss vs h), kvZ_app ss vs s v hl]
theorem kvZ_at : ∀ (ss : List (List Nat)) (vs : List V) (i : Nat) {s : List Nat} {v : V}, ss[i]? = some s → vs[i]? = some v → (kvZ ss vs)[i]? = some (.inr (tx s), v)
  | t :: ss, w :: vs, 0, s, v, h, g => by
    cases Option.some.inj h
    cases Option.some.inj g
    rfl
  | t :: ss, w :: vs, i + 1, s, v, h, g => by
    rw [List.getElem?_cons_succ] at h g
    rw [kvZ, List.getElem?_cons_succ]
    exact kvZ_at ss vs i h g
  | [], _, _, _, _, h, _ => by cases h
  | _ :: _, [], _, _, _, _, g => by cases g
/-! ### the sets in their order -/
theorem osets_ord_all : (List.range 7).all (fun n => decide ((osets n).Nodup) && decide ((osets n).length ≤ 63) && (List.range (osets n).length).all fun i => decide (((osets n).getD i []).dropLast = [] ∨ ((osets n).getD i []).dropLast ∈ (osets n).take i)) = true := by decide +kernel
theorem osets_ord {n : Nat} (h : n ≤ 6) : (osets n).Nodup ∧ (osets n).length ≤ 63 ∧ ∀ i s, (osets n)[i]? = some s → s.dropLast = [] ∨ s.dropLast ∈ (osets n).take i := by
  have z := List.all_eq_true.mp osets_ord_all n (List.mem_range.mpr (by omega))
  simp only [Bool.and_eq_true, decide_eq_true_eq, List.all_eq_true] at z
  refine ⟨z.1.1, z.1.2, fun i s hs => ?_⟩
  have y := z.2 i (List.mem_range.mpr (List.getElem?_eq_some_iff.mp hs).1)
  rw [List.getD_eq_getElem?_getD, hs] at y
  exact y
/-- the span of a set of nodes, as it is built letter by letter -/
def spanOf (rows : List (List Nat)) (s : List Nat) : List Nat := s.foldl (fun R c => spn (spn (rows.getD (c - 65) []) []) R) []
theorem spanOf_snoc (rows : List (List Nat)) {s : List Nat} (h : s ≠ []) : spanOf rows s = spn (spn (rows.getD (s.getLast h - 65) []) []) (spanOf rows s.dropLast) := by
  have e := List.dropLast_concat_getLast h
  conv => lhs; rw [← e]
  unfold spanOf
  rw [List.foldl_append]
  rfl
theorem spanOf_good (rows : List (List Nat)) : ∀ (s : List Nat) (R : List Nat), good R → good (s.foldl (fun R c => spn (spn (rows.getD (c - 65) []) []) R) R) ∧ ∀ x, S (s.foldl (fun R c => spn (spn (rows.getD (c - 65) []) []) R) R) x ↔ S (R ++ s.flatMap fun c => rows.getD (c - 65) []) x
  | [], R, g => ⟨g, fun x => by rw [List.flatMap_nil, List.append_nil]; rfl⟩
  | c :: s, R, g => by
    have g1 := good_spn (spn (rows.getD (c - 65) []) []) R g
    obtain ⟨h1, h2⟩ := spanOf_good rows s _ g1
    refine ⟨h1, fun x => ?_⟩
    rw [List.foldl_cons, h2 x, List.flatMap_cons]
    constructor
    · refine S_sub (fun m hm => ?_) x
      rcases List.mem_append.mp hm with z | z
      · have := (S_spn _ R m g).mp (S_mem _ m z)
        refine S_sub (fun k hk => ?_) m this
        rcases List.mem_append.mp hk with y | y
        · exact S_mem _ k (List.mem_append.mpr (.inl y))
        · have := (S_spn0 _ k).mp (S_mem _ k y)
          exact S_sub (fun j hj => S_mem _ j (List.mem_append.mpr (.inr (List.mem_append.mpr (.inl hj))))) k this
      · exact S_mem _ m (List.mem_append.mpr (.inr (List.mem_append.mpr (.inr z))))
    · refine S_sub (fun m hm => ?_) x
      have inl : ∀ k, S (spn (spn (rows.getD (c - 65) []) []) R) k → S (spn (spn (rows.getD (c - 65) []) []) R ++ s.flatMap fun c => rows.getD (c - 65) []) k := fun k => S_sub (fun j hj => S_mem _ j (List.mem_append.mpr (.inl hj))) k
      rcases List.mem_append.mp hm with z | z
      · exact inl m ((S_spn _ R m g).mpr (S_mem _ m (List.mem_append.mpr (.inl z))))
      · rcases List.mem_append.mp z with y | y
        · refine inl m ((S_spn _ R m g).mpr ?_)
          have := (S_spn0 (rows.getD (c - 65) []) m).mpr (S_mem _ m y)
          exact S_sub (fun j hj => S_mem _ j (List.mem_append.mpr (.inr hj))) m this
        · exact S_mem _ m (List.mem_append.mpr (.inr y))
theorem spanOf_rep (rows : List (List Nat)) : ∀ (s : List Nat) (R F : List Nat), Rep R F → ∃ G, Rep (s.foldl (fun R c => spn (spn (rows.getD (c - 65) []) []) R) R) G
  | [], R, F, h => ⟨F, h⟩
  | c :: s, R, F, h => spanOf_rep rows s _ _ (rep_fold _ h)
theorem spanOf_len (rows : List (List Nat)) (s : List Nat) : (spanOf rows s).length = rank (s.flatMap fun c => rows.getD (c - 65) []) := by
  obtain ⟨g, h⟩ := spanOf_good rows s [] trivial
  obtain ⟨G, r⟩ := spanOf_rep rows s [] _ rep0
  have r2 := rep (s.flatMap fun c => rows.getD (c - 65) [])
  have e : ∀ x, S (spanOf rows s) x ↔ S (spn (s.flatMap fun c => rows.getD (c - 65) []) []) x := fun x => (h x).trans (by rw [List.nil_append]; exact (S_spn0 _ x).symm)
  exact Nat.le_antisymm (rep_le r r2 fun x => (e x).mp) (rep_le r2 r fun x => (e x).mpr)
end AK
set_option Elab.async false
set_option linter.all false
set_option maxRecDepth 100000
set_option maxHeartbeats 4000000
namespace AK.Cmb
open PySem PySem.Spec
theorem mro_cmb : mroOf (.type "itertools.combinations") = pure [.type "itertools.combinations", .type "object"] := by rw [mroOf_type]; kernel_rfl
theorem lookup_cmb_new : typeLookup (.type "itertools.combinations") "__new__" = pure (some (.builtin "itertools.combinations.__new__")) := by rw [typeLookup_type, builtinLookup_eq_fast]; kernel_rfl
theorem slot_cmb_init : Slot "itertools.combinations" "__init__" "object.__init__" :=
  .of (owner := "object") (n := "__init__") (by rw [typeLookup_type, builtinLookup_eq_fast]; kernel_rfl) (by decide +kernel) (by decide +kernel) (by decide +kernel)
    (by first | exact .inl (by decide +kernel) | exact .inr (by decide +kernel)) (by rw [isSubtype_type]; kernel_rfl)
theorem sub_cmb : isSubtype (.type "itertools.combinations") (.type "itertools.combinations") = pure true := by rw [isSubtype_type]; kernel_rfl
theorem called_cmb : TypeCalled "itertools.combinations" "itertools.combinations.__new__" "object.__init__" :=
  ⟨by decide +kernel, by decide +kernel, ⟨_, _, mro_cmb⟩, madeBy_type mro_cmb lookup_cmb_new (by decide +kernel), by decide +kernel, sub_cmb, slot_cmb_init⟩
theorem typeCall_cmb_2 (a b : Value) : checkTypeCall "itertools.combinations" ⟨[a, b], []⟩ = pure () := by kernel_rfl
theorem newCall_cmb_2 (a b : Value) : checkBuiltinCall "itertools.combinations.__new__" ⟨[.type "itertools.combinations", a, b], []⟩ = pure () := by kernel_rfl
theorem entry_cmb_new : entryFor table "itertools.combinations.__new__" = some Builtin.«itertools.combinations.__new__» := entryFor_of_tree (by kernel_rfl)
theorem slot_cmb_iter : Slot "itertools.combinations" "__iter__" "itertools.combinations.__iter__" :=
  .of (owner := "itertools.combinations") (n := "__iter__") (by rw [typeLookup_type, builtinLookup_eq_fast]; kernel_rfl) (by decide +kernel) (by decide +kernel) (by decide +kernel)
    (by first | exact .inl (by decide +kernel) | exact .inr (by decide +kernel)) sub_cmb
theorem slot_cmb_next : Slot "itertools.combinations" "__next__" "itertools.combinations.__next__" :=
  .of (owner := "itertools.combinations") (n := "__next__") (by rw [typeLookup_type, builtinLookup_eq_fast]; kernel_rfl) (by decide +kernel) (by decide +kernel) (by decide +kernel)
    (by first | exact .inl (by decide +kernel) | exact .inr (by decide +kernel)) sub_cmb
theorem entry_cmb_iter : entryFor table "itertools.combinations.__iter__" = some Builtin.«dict_keyiterator.__iter__» :=
  entryFor_alias (id' := "dict_keyiterator.__iter__") (by kernel_rfl) (by first | rfl | decide +kernel | (unfold String.splitOn; simp +decide [String.splitOnAux])) (by decide +kernel) (by kernel_rfl)
theorem entry_cmb_next : entryFor table "itertools.combinations.__next__" = some Builtin.«itertools.combinations.__next__» := entryFor_of_tree (by kernel_rfl)
theorem owner_cmb : Manifest.owners.lookup (String.ofList ['s', 'n', 'o', 'i', 't', 'a', 'n', 'i', 'b', 'm', 'o', 'c', '.', 's', 'l', 'o', 'o', 't', 'r', 'e', 't', 'i'].reverse) = some Manifest.sig_itertools_combinations := by kernel_rfl
theorem args_cmb_iter (a : Value) : argsOk "itertools.combinations.__iter__" ⟨[a], []⟩ := by
  unfold argsOk; rw [signature?_of (id := "itertools.combinations.__iter__") (n := ['_', '_', 'r', 'e', 't', 'i', '_', '_']) (o := ['s', 'n', 'o', 'i', 't', 'a', 'n', 'i', 'b', 'm', 'o', 'c', '.', 's', 'l', 'o', 'o', 't', 'r', 'e', 't', 'i']) (by kernel_rfl) owner_cmb]; kernel_rfl
theorem args_cmb_next (a : Value) : argsOk "itertools.combinations.__next__" ⟨[a], []⟩ := by
  unfold argsOk; rw [signature?_of (id := "itertools.combinations.__next__") (n := ['_', '_', 't', 'x', 'e', 'n', '_', '_']) (o := ['s', 'n', 'o', 'i', 't', 'a', 'n', 'i', 'b', 'm', 'o', 'c', '.', 's', 'l', 'o', 'o', 't', 'r', 'e', 't', 'i']) (by kernel_rfl) owner_cmb]; kernel_rfl
theorem noDict_cmb : typeHasDict (.type "itertools.combinations") = false := by decide +kernel
/-- the fields of a combinations object -/
def flds (pool : Addr) (st : Nat) (last : Value) (l : List Nat) : Array Value := ([.ref pool, rawInt st, last] ++ l.map fun (i : Nat) => rawInt i).toArray
abbrev pObj (acc : Array Value) : Obj := { cls := .type "tuple", data := .seq acc }
abbrev cObj (pool : Addr) (st : Nat) (last : Value) (l : List Nat) : Obj := { cls := .type "itertools.combinations", data := .fields (flds pool st last l) }
abbrev IsCmb (h : Heap) (it pool : Addr) (st : Nat) (last : Value) (l : List Nat) : Prop := ∃ o, h.get? it = some o ∧ o.cls = .type "itertools.combinations" ∧ o.data = .fields (flds pool st last l)
theorem IsCmb.typeIs {s : Shared} {it pool : Addr} {st : Nat} {last : Value} {l : List Nat} (x : IsCmb s.heap it pool st last l) : s.TypeIs (.ref it) "itertools.combinations" := let ⟨o, ho, hc, _⟩ := x; ⟨o, ho, hc⟩
section
variable {prog : Program} {w : World}
theorem class_eq (a b : Value) : Builtin.Itertools.itClassAndRest "combinations" ⟨[.type "itertools.combinations", a, b], []⟩ = pure (.type "itertools.combinations", [a, b]) := by
  unfold Builtin.Itertools.itClassAndRest
  have e : ("itertools." ++ "combinations" : String) = "itertools.combinations" := by decide
  simp only [e, isType, sub_cmb, pure_bind, Bool.not_true, Bool.false_eq_true, if_false]
theorem bind_eq (a b : Value) : Builtin.Itertools.itBindNamed "combinations" ["iterable", "r"] 2 2 [a, b] [] = pure [some a, some b] := by
  first | rfl | kernel_rfl
theorem ssize_eq (n : Nat) (t : Tok) (h : n ≤ 1000) : Builtin.Itertools.itSsizeArg (.int n t) = pure (n : Int) := by
  unfold Builtin.Itertools.itSsizeArg
  have e : asIndex (.int n t) = pure (n : Int) := by first | rfl | kernel_rfl
  have e2 : (decide ((n : Int) < -(2 ^ 63 : Int)) || decide ((n : Int) ≥ 2 ^ 63)) = false := by
    rw [decide_eq_false (by omega), decide_eq_false (by omega)]
    rfl
  rw [e, pure_bind, if_neg (by rw [e2]; decide)]
end
end AK.Cmb
set_option Elab.async false
set_option linter.all false
set_option maxRecDepth 100000
set_option maxHeartbeats 4000000
namespace AK.Cmb
open PySem PySem.Spec
section
variable {prog : Program} {w : World}
theorem flds_ok {pool : Addr} {st : Nat} {last : Value} {l : List Nat} (h : l.length ≤ 1100) : sizeOk (.fields (flds pool st last l)) := by
  have : 1200 ≤ sizeLine := by decide +kernel
  show (flds pool st last l).size ≤ _
  simp only [flds, List.size_toArray, List.length_append, List.length_cons, List.length_nil, List.length_map]
  omega
theorem nums_eq (f : Value → Nat) (hf : ∀ n : Nat, f (rawInt n) = n) (pool : Addr) (st : Nat) (last : Value) (l : List Nat) : List.map f (List.drop 3 (flds pool st last l).toList) = l := by
  simp only [flds, List.toList_toArray]
  show List.map _ (l.map fun (i : Nat) => rawInt i) = l
  rw [List.map_map]
  conv => rhs; rw [← List.map_id l]
  refine List.map_congr_left fun x _ => hf x
theorem flds_1 (pool : Addr) (st : Nat) (last : Value) (l : List Nat) (k : Nat) : (flds pool st last l).setIfInBounds 1 (rawInt (k : Nat)) = flds pool k last l := by
  simp only [flds, List.setIfInBounds_toArray]
  rfl
theorem flds_2 (pool : Addr) (st : Nat) (last v : Value) (l : List Nat) : (flds pool st last l).setIfInBounds 2 v = flds pool st v l := by
  simp only [flds, List.setIfInBounds_toArray]
  rfl
theorem flds_3 (pool : Addr) (st : Nat) (last : Value) (l l2 : List Nat) : (flds pool st last l).extract 0 3 ++ (l2.map fun (n : Nat) => rawInt n).toArray = flds pool st last l2 := by
  simp only [flds, List.extract_toArray, List.append_toArray]
  rfl
theorem hand {it pool : Addr} {last : Value} {l : List Nat} {o1 : Obj} {items : List Value} {M : Model} {A : Around} {F : Fin → Shared → Prop} {G : Value → Shared → Prop} {s : Shared} (hi : s.heap.get? it = some o1) (hc : o1.cls = .type "itertools.combinations") (hf : o1.data = .fields (flds pool 1 last l)) (hl : items.length ≤ 1000)
    (hF : ∀ h', h'.get? s.heap.objs.size = some (pObj items.toArray) → IsCmb h' it pool 1 (.ref s.heap.objs.size) l → (∀ b, b ≠ it → b ≠ s.heap.objs.size → h'.get? b = s.heap.get? b) → F (.done (.ret (.ref s.heap.objs.size))) { s with heap := h' }) :
    wpAny M A (newTuple items) (fun a s' => wpAny M A (do
          let before ← field (Value.ref it) 2
          setField (Value.ref it) 2 a
          letGo [before] [a]
          ret a) F G s') G s := by
  refine wpAny_newTuple ?_ (Nat.le_of_lt (L2.small1000 hl))
  have hlt : it < s.heap.objs.size := Heap.lt_size hi
  have hi2 : (s.heap.push (pObj items.toArray)).get? it = some o1 := Heap.get?_push_of_some _ hi
  refine wpAny_bind (wpAny_field hi2 hf (x := last) rfl ?_)
  refine wpAny_bind (wpAny_setField hi2 hf (by simp [flds]) ?_)
  refine wpAny_bind (wpAny_letGo ?_)
  refine wpAny_pure (hF _ ?_ ?_ fun b hb1 hb2 => ?_)
  · rw [Heap.get?_update_ne _ _ _ _ (Nat.ne_of_gt hlt)]
    exact Heap.get?_push_size _ rfl
  · refine ⟨_, Heap.get?_update_self _ hi2 (Obj.isFreed_of_fields (Obj.data_mapFields hf _)), (Obj.cls_mapFields ..).trans hc, ?_⟩
    rw [Obj.data_mapFields hf, flds_2]
  · rw [Heap.get?_update_ne _ _ _ _ hb1]
    exact Heap.get?_push_ne _ _ _ hb2
theorem meets_cmb_new (x : Str) (t : Tok) (n : Nat) (t2 : Tok) (hx : x.cps.size ≤ 1000) (hn : n ≤ x.cps.size) :
    MeetsIn prog w (Builtin.«itertools.combinations.__new__» ⟨[.type "itertools.combinations", .str x t, .int n t2], []⟩)
      (fun A R s => A.in1.handled = none ∧ ∀ (hm : Heap) (tk : Nat) (acc : Array Value), (∀ b o, s.heap.get? b = some o → hm.get? b = some o) → ItemsOf (SignAt x) acc x.cps.size →
        R (.ok (.ret (.ref (hm.objs.size + 1)))) { s with heap := (hm.push (pObj acc)).push (cObj hm.objs.size 0 .none (List.range n)), toks := tk }) :=
  .of_wp fun A R s h => by
    obtain ⟨hh, h⟩ := h
    unfold Builtin.«itertools.combinations.__new__»
    refine wpAny_bind ?_
    show wpAny _ _ (Builtin.Itertools.itClassAndRest "combinations" _ >>= _) _ _ s
    refine wpAny_bind (wpAny_of_eq (class_eq _ _) ?_)
    try dsimp only
    refine wpAny_bind (wpAny_of_eq (bind_eq _ _) ?_)
    try dsimp only
    refine wpAny_bind (wpAny_of_eq (ssize_eq n t2 (by omega)) ?_)
    refine wpAny_bind (wpAny_collect_str hh x t (fun s' acc k1 k2 k3 k4 k5 => ?_) (Nat.le_of_lt (L2.small1000 hx)))
    have hI : ¬ ((n : Int) < 0) := by omega
    have hM : ¬ (Builtin.Itertools.itTooMany (n : Int) = true) := by
      unfold Builtin.Itertools.itTooMany
      rw [decide_eq_false (by omega)]
      decide
    rw [if_neg hI, if_neg hM]
    have hz : acc.size ≤ sizeLine := by
      rw [k5.1]
      exact Nat.le_of_lt (L2.small1000 hx)
    refine wpAny_bind (wpAny_newTuple (wpAny_pure ?_))
    try dsimp only
    unfold Builtin.Itertools.itNewRecord
    rw [noDict_cmb]
    have hl : ¬ ((n : Int).toNat > acc.toList.length) := by
      rw [Int.toNat_natCast, Array.length_toList, k5.1]
      omega
    rw [if_pos (by rfl), if_neg hl, Int.toNat_natCast]
    refine wpAny_bind (wpAny_newObj_type (wpAny_pure ⟨_, rfl, ?_⟩) ?_)
    · have z := h s'.heap s'.toks acc k1 k5
      rw [k2, k3, k4]
      have e : (s'.heap.push (pObj acc)).objs.size = s'.heap.objs.size + 1 := by simp [Heap.push]
      show R (.ok (.ret (.ref (s'.heap.push (pObj acc)).objs.size))) _
      rw [e]
      exact z
    · exact flds_ok (by rw [List.length_range]; omega)
theorem next_first {it pool : Addr} {last : Value} {l : List Nat} {acc : Array Value} {op : Obj} {A : Around} {E : Value → Shared → Prop} {s : Shared} {Q : Option Value → Shared → Prop} (hit : IsCmb s.heap it pool 0 last l) (ho : s.heap.get? pool = some op) (hd : op.data = .seq acc) (hne : pool ≠ it) (hl : l.length ≤ 1000)
    (hQ : ∀ h', h'.get? s.heap.objs.size = some (pObj (l.map fun i => acc.getD i .none).toArray) → IsCmb h' it pool 1 (.ref s.heap.objs.size) l → (∀ b, b ≠ it → b ≠ s.heap.objs.size → h'.get? b = s.heap.get? b) → Q (some (.ref s.heap.objs.size)) { s with heap := h' }) :
    wpAny (model prog w) A (pyNext (.ref it)) Q E s := by
  obtain ⟨oi, hi, hc, hf⟩ := id hit
  unfold pyNext
  refine wpAny_bind (wpAny_attempt (wpAny_callSpecial?_slot (name := Str.ofString "__next__") hit.typeIs slot_cmb_next
    (wpAny_call_entry slot_cmb_next hit.typeIs entry_cmb_next ?_ (args_cmb_next _))))
  show wpAny _ _ (slotArgs "__next__" 0 _ >>= _) _ _ s
  refine wpAny_bind (wpAny_of_eq (a := (Value.ref it, [])) rfl ?_)
  try dsimp only
  refine wpAny_bind (wpAny_field hi hf (x := .ref pool) rfl ?_)
  show wpAny _ _ (Builtin.Itertools.itNumbersFrom (.ref it) 3 >>= _) _ _ s
  unfold Builtin.Itertools.itNumbersFrom
  refine wpAny_bind ?_
  try dsimp only
  refine wpAny_bind (wpAny_load hi ?_)
  rw [hf]
  dsimp only
  refine wpAny_pure ?_
  rw [nums_eq _ fun n => Int.toNat_natCast n]
  unfold Builtin.Itertools.itIntField
  refine wpAny_bind (wpAny_bind (wpAny_field hi hf (x := rawInt 0) rfl (wpAny_pure ?_)))
  try dsimp only
  refine wpAny_bind (wpAny_setField hi hf (by simp [flds]) ?_)
  show wpAny _ _ ((Builtin.Itertools.itPoolItems (.ref pool) >>= _) >>= _) _ _ _
  unfold Builtin.Itertools.itPoolItems
  have ho1 : (s.heap.update it (Obj.mapFields fun x => x.setIfInBounds 1 (rawInt 1))).get? pool = some op := by
    rw [Heap.get?_update_ne _ _ _ _ hne]
    exact ho
  refine wpAny_bind (wpAny_bind (wpAny_bind (wpAny_seqItems ho1 hd (wpAny_pure ?_))))
  have hi1 := Heap.get?_update_self (Obj.mapFields fun x => x.setIfInBounds 1 (rawInt 1)) hi (Obj.isFreed_of_fields (Obj.data_mapFields hf _))
  have hlt : it < s.heap.objs.size := Heap.lt_size hi
  have hsz : (s.heap.update it (Obj.mapFields fun x => x.setIfInBounds 1 (rawInt 1))).objs.size = s.heap.objs.size := by simp [Heap.update]
  refine hand hi1 ((Obj.cls_mapFields ..).trans hc) (by rw [Obj.data_mapFields hf]; exact congrArg _ (flds_1 pool 0 last l 1)) (by rw [List.length_map]; exact hl) fun h' g1 g2 g3 => ⟨_, rfl, wpAny_pure ?_⟩
  rw [hsz] at g1 g2 g3 ⊢
  exact hQ h' g1 g2 fun b b1 b2 => (g3 b b1 b2).trans (Heap.get?_update_ne _ _ _ _ b1)
/-- the r of n places, in their order -/
def cmbs : Nat → Nat → List (List Nat)
  | _, 0 => [[]]
  | 0, _ + 1 => []
  | n + 1, r + 1 => (cmbs n r).map (fun l => 0 :: l.map (· + 1)) ++ (cmbs n (r + 1)).map (fun l => l.map (· + 1))
/-- what a step function does on all of them, up to eight places -/
def stepsOk (f : Nat → List Nat → Option (List Nat)) : Bool :=
  (List.range 7).all fun n => (List.range (n + 1)).all fun r => (List.range (cmbs n r).length).all fun i => f n ((cmbs n r).getD i []) == (cmbs n r)[i + 1]?
theorem match_step {f : Nat → List Nat → Option (List Nat)} (tab : stepsOk f = true) {n r i : Nat} (hn : n ≤ 6) (hr : r ≤ n) (hi : i < (cmbs n r).length) : f n ((cmbs n r).getD i []) = (cmbs n r)[i + 1]? := by
  have z := List.all_eq_true.mp (List.all_eq_true.mp (List.all_eq_true.mp tab n (List.mem_range.mpr (by omega))) r (List.mem_range.mpr (by omega))) i (List.mem_range.mpr hi)
  exact eq_of_beq z
theorem next_more {it pool : Addr} {last : Value} {n r i : Nat} {acc : Array Value} {op : Obj} {A : Around} {E : Value → Shared → Prop} {s : Shared} {Q : Option Value → Shared → Prop} (hn : n ≤ 6) (hr : r ≤ n) (hit : IsCmb s.heap it pool 1 last ((cmbs n r).getD i [])) (ho : s.heap.get? pool = some op) (hd : op.data = .seq acc) (hs : acc.size = n) (hne : pool ≠ it) (hi1 : i + 1 < (cmbs n r).length)
    (hl : ((cmbs n r).getD (i + 1) []).length ≤ 1000)
    (hQ : ∀ h', h'.get? s.heap.objs.size = some (pObj (((cmbs n r).getD (i + 1) []).map fun i => acc.getD i .none).toArray) → IsCmb h' it pool 1 (.ref s.heap.objs.size) ((cmbs n r).getD (i + 1) []) → (∀ b, b ≠ it → b ≠ s.heap.objs.size → h'.get? b = s.heap.get? b) → Q (some (.ref s.heap.objs.size)) { s with heap := h' }) :
    wpAny (model prog w) A (pyNext (.ref it)) Q E s := by
  obtain ⟨oi, hi, hc, hf⟩ := id hit
  unfold pyNext
  refine wpAny_bind (wpAny_attempt (wpAny_callSpecial?_slot (name := Str.ofString "__next__") hit.typeIs slot_cmb_next
    (wpAny_call_entry slot_cmb_next hit.typeIs entry_cmb_next ?_ (args_cmb_next _))))
  show wpAny _ _ (slotArgs "__next__" 0 _ >>= _) _ _ s
  refine wpAny_bind (wpAny_of_eq (a := (Value.ref it, [])) rfl ?_)
  try dsimp only
  refine wpAny_bind (wpAny_field hi hf (x := .ref pool) rfl ?_)
  show wpAny _ _ (Builtin.Itertools.itNumbersFrom (.ref it) 3 >>= _) _ _ s
  unfold Builtin.Itertools.itNumbersFrom
  refine wpAny_bind ?_
  try dsimp only
  refine wpAny_bind (wpAny_load hi ?_)
  rw [hf]
  dsimp only
  refine wpAny_pure ?_
  rw [nums_eq _ fun n => Int.toNat_natCast n]
  unfold Builtin.Itertools.itIntField
  refine wpAny_bind (wpAny_bind (wpAny_field hi hf (x := rawInt 1) rfl (wpAny_pure ?_)))
  try dsimp only
  show wpAny _ _ (Builtin.Itertools.itPoolItems (.ref pool) >>= _) _ _ _
  unfold Builtin.Itertools.itPoolItems
  refine wpAny_bind (wpAny_bind (wpAny_seqItems ho hd (wpAny_pure ?_)))
  try dsimp only
  rw [hs]
  have hsome : (cmbs n r)[i + 1]? = some ((cmbs n r).getD (i + 1) []) := by
    rw [List.getD_eq_getElem?_getD, List.getElem?_eq_getElem hi1]
    rfl
  split
  · rename_i next heq
    have e := heq.symm.trans (match_step (by kernel_rfl) hn hr (show i < (cmbs n r).length by omega))
    rw [hsome] at e
    cases Option.some.inj e
    unfold Builtin.Itertools.itSetNumbersFrom
    refine wpAny_bind (wpAny_updateFields hi hf ?_ ?_)
    · show wpAny _ _ ((Builtin.Itertools.itPoolItems (.ref pool) >>= _) >>= _) _ _ _
      unfold Builtin.Itertools.itPoolItems
      generalize hfn : (fun fs : Array Value => fs.extract 0 3 ++ (((cmbs n r).getD (i + 1) []).map fun (n : Nat) => rawInt n).toArray) = fn
      have ho1 : (s.heap.update it (Obj.mapFields fn)).get? pool = some op := by
        rw [Heap.get?_update_ne _ _ _ _ hne]
        exact ho
      refine wpAny_bind (wpAny_bind (wpAny_bind (wpAny_seqItems ho1 hd (wpAny_pure ?_))))
      have hi1 := Heap.get?_update_self (Obj.mapFields fn) hi (Obj.isFreed_of_fields (Obj.data_mapFields hf _))
      have hlt : it < s.heap.objs.size := Heap.lt_size hi
      have hsz : (s.heap.update it (Obj.mapFields fn)).objs.size = s.heap.objs.size := by simp [Heap.update]
      refine hand hi1 ((Obj.cls_mapFields ..).trans hc) (by rw [Obj.data_mapFields hf, ← hfn]; exact congrArg _ (flds_3 pool 1 last _ _)) (by rw [List.length_map]; exact hl) fun h' g1 g2 g3 => ⟨_, rfl, wpAny_pure ?_⟩
      rw [hsz] at g1 g2 g3 ⊢
      exact hQ h' g1 g2 fun b b1 b2 => (g3 b b1 b2).trans (Heap.get?_update_ne _ _ _ _ b1)
    · show (((flds pool 1 last ((cmbs n r).getD i [])).extract 0 3 ++ (((cmbs n r).getD (i + 1) []).map fun (n : Nat) => rawInt n).toArray)).size ≤ _
      rw [flds_3]
      have := flds_ok (pool := pool) (st := 1) (last := last) (l := (cmbs n r).getD (i + 1) []) (by omega)
      exact Nat.le_succ_of_le this
  · rename_i heq
    have e := heq.symm.trans (match_step (by kernel_rfl) hn hr (show i < (cmbs n r).length by omega))
    rw [hsome] at e
    cases e
theorem next_end {it pool : Addr} {last : Value} {n r i : Nat} {acc : Array Value} {op : Obj} {A : Around} {E : Value → Shared → Prop} {s : Shared} {Q : Option Value → Shared → Prop} (hh : A.handled = none) (hn : n ≤ 6) (hr : r ≤ n) (hit : IsCmb s.heap it pool 1 last ((cmbs n r).getD i [])) (ho : s.heap.get? pool = some op) (hd : op.data = .seq acc) (hs : acc.size = n) (hi1 : i + 1 = (cmbs n r).length)
    (hQ : ∀ h', Heap.ExtBut it s.heap h' → Q none { s with heap := h' }) :
    wpAny (model prog w) A (pyNext (.ref it)) Q E s := by
  obtain ⟨oi, hi, hc, hf⟩ := id hit
  unfold pyNext
  refine wpAny_bind (wpAny_attempt (wpAny_callSpecial?_slot (name := Str.ofString "__next__") hit.typeIs slot_cmb_next
    (wpAny_call_entry slot_cmb_next hit.typeIs entry_cmb_next ?_ (args_cmb_next _))))
  show wpAny _ _ (slotArgs "__next__" 0 _ >>= _) _ _ s
  refine wpAny_bind (wpAny_of_eq (a := (Value.ref it, [])) rfl ?_)
  try dsimp only
  refine wpAny_bind (wpAny_field hi hf (x := .ref pool) rfl ?_)
  show wpAny _ _ (Builtin.Itertools.itNumbersFrom (.ref it) 3 >>= _) _ _ s
  unfold Builtin.Itertools.itNumbersFrom
  refine wpAny_bind ?_
  try dsimp only
  refine wpAny_bind (wpAny_load hi ?_)
  rw [hf]
  dsimp only
  refine wpAny_pure ?_
  rw [nums_eq _ fun n => Int.toNat_natCast n]
  unfold Builtin.Itertools.itIntField
  refine wpAny_bind (wpAny_bind (wpAny_field hi hf (x := rawInt 1) rfl (wpAny_pure ?_)))
  try dsimp only
  show wpAny _ _ (Builtin.Itertools.itPoolItems (.ref pool) >>= _) _ _ _
  unfold Builtin.Itertools.itPoolItems
  refine wpAny_bind (wpAny_bind (wpAny_seqItems ho hd (wpAny_pure ?_)))
  try dsimp only
  rw [hs]
  have hnone : (cmbs n r)[i + 1]? = none := List.getElem?_eq_none (by omega)
  split
  · rename_i next heq
    have e := heq.symm.trans (match_step (by kernel_rfl) hn hr (show i < (cmbs n r).length by omega))
    rw [hnone] at e
    cases e
  · refine wpAny_bind (wpAny_setField hi hf (by simp [flds]) ?_)
    show wpAny _ _ (newExc (.type "StopIteration") [] >>= _) _ _ _
    refine wpAny_bind ?_
    simp only [newExc, newTuple]
    refine wpAny_bind (wpAny_newObj_type ?_ (by size_fits))
    refine wpAny_bind (m := firstArgMember _ _) (wpAny_of_eq (a := Value.none) (by first | rfl | (simp only [firstArgMember]; rfl)) ?_)
    refine wpAny_newObj_type ?_ (by size_fits)
    simp only [raiseNew]
    refine wpAny_bind (wpAny_handled ?_)
    first | rw [show A.in1.handled = none from hh] | rw [hh]
    refine wpAny_bind (wpAny_pure (wpAny_throw ?_))
    refine wpAny_bind (wpAny_isInstance (T := "StopIteration") (b := true) ⟨_, Heap.get?_push_size _ rfl, rfl⟩ isSubtype_stop ?_)
    exact wpAny_pure (hQ _ fun b o hb e => Heap.get?_push_of_some _ (Heap.get?_push_of_some _ (by rw [Heap.get?_update_ne _ _ _ _ hb]; exact e)))
end
end AK.Cmb
set_option Elab.async false
set_option linter.all false
set_option maxRecDepth 100000
set_option maxHeartbeats 4000000
namespace AK
open PySem PySem.Spec PyProof.Rows L2 Cmb
/-! ### for chosen in combinations(text, n) -/
def pick (l ks : List Nat) : List V := ks.map fun k => V.str (tx [l.getD k 0])
/-- the r-subsets of a text's signs, each a new tuple -/
def IteC (l : List Nat) (r : Nat) : It :=
  ⟨fun i _ => i < (cmbs l.length r).length, fun i H v H' => ∃ T, v = .ref T ∧ H T = none ∧ H' = upd H T (.tup (pick l ((cmbs l.length r).getD i []))), fun i _ => (cmbs l.length r).length ≤ i⟩
theorem cmbs_0 : (List.range 7).all (fun n => (List.range (n + 1)).all fun r => decide (0 < (cmbs n r).length) && ((cmbs n r).getD 0 [] == List.range r) && (cmbs n r).all fun l => decide (l.length = r) && l.all fun k => decide (k < n)) = true := by decide +kernel
theorem cmbs_f {n r : Nat} (hn : n ≤ 6) (hr : r ≤ n) : 0 < (cmbs n r).length ∧ (cmbs n r).getD 0 [] = List.range r ∧ ∀ l ∈ cmbs n r, l.length = r ∧ ∀ k ∈ l, k < n := by
  have z := List.all_eq_true.mp (List.all_eq_true.mp cmbs_0 n (List.mem_range.mpr (by omega))) r (List.mem_range.mpr (by omega))
  simp only [Bool.and_eq_true, List.all_eq_true, decide_eq_true_eq] at z
  exact ⟨z.1.1, eq_of_beq z.1.2, z.2⟩
theorem cmbs_at {n r i : Nat} (h : i < (cmbs n r).length) : (cmbs n r).getD i [] ∈ cmbs n r := by
  rw [List.getD_eq_getElem?_getD, List.getElem?_eq_getElem h]
  exact List.getElem_mem h
theorem pick_vals {l : List Nat} {acc : Array Value} (h : ItemsOf (SignAt (tx l)) acc l.length) : ∀ {ks : List Nat}, (∀ k ∈ ks, k < l.length) → Vals (pick l ks) (ks.map fun i => acc.getD i .none)
  | [], _ => .nil
  | k :: ks, hk => by
    have h0 := hk k List.mem_cons_self
    have hs : k < acc.size := by rw [h.1]; exact h0
    have e := h.2 k acc[k] (Array.getElem?_eq_getElem hs)
    obtain ⟨c, u, hc, ev⟩ := e
    have hcl : l[k]? = some c := by
      have : (tx l).cps[k]? = l[k]? := by simp [tx]
      rw [← this]
      exact hc
    refine .cons ?_ (pick_vals h fun q hq => hk q (List.mem_cons_of_mem _ hq))
    refine ⟨u, ?_⟩
    show acc.getD k .none = _
    rw [Array.getD_eq_getD_getElem?, Array.getElem?_eq_getElem hs, List.getD_eq_getElem?_getD, hcl]
    exact ev
theorem turn_comb {P : Program} {w : World} {K : PySem.W.Frag} {tg : Expr} {l : List Nat} {r : Nat} (hn : l.length ≤ 6) (hr : r ≤ l.length) (it pool : Addr) (acc : Array Value) (ha : ItemsOf (SignAt (tx l)) acc l.length) :
    Turn P w K tg (IteC l r) [it, pool] it (fun i h => i ≤ (cmbs l.length r).length ∧ (∃ last, IsCmb h it pool (if i = 0 then 0 else 1) last ((cmbs l.length r).getD (i - 1) [])) ∧ h.get? pool = some (pObj acc) ∧ pool ≠ it) where
  mem := by simp
  obj := fun i h st b hb => by
    obtain ⟨_, ⟨last, o, ho, hc, hd⟩, hp, _⟩ := st
    rcases List.mem_cons.mp hb with z | z
    · rw [z]; exact ⟨_, ho, fun v q => by rw [hd] at q; cases q⟩
    · rw [List.mem_singleton.mp z]; exact ⟨_, hp, fun v q => by cases q⟩
  keep := fun i h h' st k => by
    obtain ⟨h1, ⟨last, o, ho, hc, hd⟩, hp, hne⟩ := st
    exact ⟨h1, ⟨last, o, k it (by simp) o ho, hc, hd⟩, k pool (by simp) _ hp, hne⟩
  item := by
    intro X hP hw hK hc i pins s σ H E I hf st hg; subst hP hw hK
    obtain ⟨hle, ⟨last, hit⟩, hp, hne⟩ := st
    have hg : i < (cmbs l.length r).length := hg
    obtain ⟨c0, c1, c2⟩ := cmbs_f hn hr
    obtain ⟨m1, m2⟩ := c2 _ (cmbs_at hg)
    have hil : it < s.heap.objs.size := by obtain ⟨o, q, _⟩ := id hit; exact Heap.lt_size q
    have hpl : pool < s.heap.objs.size := Heap.lt_size hp
    have fin : ∀ h', h'.get? s.heap.objs.size = some (pObj (((cmbs l.length r).getD i []).map fun i => acc.getD i .none).toArray) → IsCmb h' it pool 1 (.ref s.heap.objs.size) ((cmbs l.length r).getD i []) → (∀ b, b ≠ it → b ≠ s.heap.objs.size → h'.get? b = s.heap.get? b) →
        ∃ u, some (Value.ref s.heap.objs.size) = some u ∧
      wpAny (model X.prog X.w) X.A (letOwnedTupleGo tg (.ref it) u) (fun _ s2 => ∃ x H', Inv X pins σ H' s2 ∧ RelV x u ∧ (IteC l r).yld i H x H' ∧ (i + 1 ≤ (cmbs l.length r).length ∧ (∃ last, IsCmb s2.heap it pool (if i + 1 = 0 then 0 else 1) last ((cmbs l.length r).getD (i + 1 - 1) [])) ∧ s2.heap.get? pool = some (pObj acc) ∧ pool ≠ it) ∧ ∀ b ∈ [it, pool], H' b = none) E { s with heap := h' } := by
      intro h' g1 g2 g3
      refine ⟨_, rfl, ?_⟩
      obtain ⟨o2, q1, q2, q3⟩ := id g2
      refine go_of (s := { s with heap := h' }) q1 q2 q3 (by decide) ?_
      have new : ObjOk X.prog X.w (upd H s.heap.objs.size (.tup (pick l ((cmbs l.length r).getD i [])))) h' s.heap.objs.size (.tup (pick l ((cmbs l.length r).getD i []))) :=
        ⟨by rw [pick, List.length_map, m1]; exact Nat.le_of_lt (small1000 (by omega)), _, pick_vals ha m2, _, g1, rfl, _, rfl⟩
      have I1 : Inv X pins σ (upd H s.heap.objs.size (.tup (pick l ((cmbs l.length r).getD i [])))) { s with heap := h', toks := s.toks } :=
        I.turnedNew (ch := [it, pool]) (fun b ob hb q => by
          have hbl := Heap.lt_size q
          rw [g3 b (fun z => hb (by simp [z])) (Nat.ne_of_lt hbl)]
          exact q) hf (Nat.le_refl _) new
      refine ⟨.ref s.heap.objs.size, _, I1, rfl, ⟨_, rfl, I.hok.fresh (Nat.le_refl _), rfl⟩, ⟨hg, ⟨_, g2⟩, ?_, hne⟩, fun b hb => ?_⟩
      · rw [g3 pool hne (Nat.ne_of_lt hpl)]
        exact hp
      · have hb' : b < s.heap.objs.size := by
          rcases List.mem_cons.mp hb with z | z
          · rw [z]; exact hil
          · rw [List.mem_singleton.mp z]; exact hpl
        rw [upd_ne (Nat.ne_of_lt hb')]
        exact (hf b hb).1
    have hlr : ((cmbs l.length r).getD i []).length ≤ 1000 := by rw [m1]; omega
    by_cases h0 : i = 0
    · subst h0
      exact next_first hit hp rfl hne hlr fin
    · rw [if_neg h0] at hit
      have e1 : i - 1 + 1 = i := by omega
      have := next_more (prog := X.prog) (w := X.w) (A := X.A) (E := E) (Q := fun r_1 s1 => ∃ u, r_1 = some u ∧
      wpAny (model X.prog X.w) X.A (letOwnedTupleGo tg (.ref it) u) (fun _ s2 => ∃ x H', Inv X pins σ H' s2 ∧ RelV x u ∧ (IteC l r).yld i H x H' ∧ (i + 1 ≤ (cmbs l.length r).length ∧ (∃ last, IsCmb s2.heap it pool (if i + 1 = 0 then 0 else 1) last ((cmbs l.length r).getD (i + 1 - 1) [])) ∧ s2.heap.get? pool = some (pObj acc) ∧ pool ≠ it) ∧ ∀ b ∈ [it, pool], H' b = none) E s1) hn hr hit hp rfl ha.1 hne (by omega) (by rw [e1]; exact hlr)
      rw [e1] at this
      exact this fin
  done := by
    intro X hP hw hK hc i pins s σ H E I hf st hg; subst hP hw hK
    obtain ⟨hle, ⟨last, hit⟩, hp, hne⟩ := st
    obtain ⟨f0, f1, f2, f3, f4, f5⟩ := hf it (by simp)
    have hg : (cmbs l.length r).length ≤ i := hg
    obtain ⟨c0, c1, c2⟩ := cmbs_f hn hr
    have h0 : i ≠ 0 := by omega
    rw [if_neg h0] at hit
    exact next_end (I.ok.hd hc) hn hr hit hp rfl ha.1 (by omega) fun h' eb =>
      ⟨rfl, I.turned (t' := s.toks) (fun b o' hb q => eb b o' hb q) f0 f1 f3 f4 f5⟩
  self := fun A i s Q E st h => by
    obtain ⟨_, ⟨last, hit⟩, _⟩ := st
    refine wpAny_pyIter_slot hit.typeIs slot_cmb_iter (wpAny_call_entry slot_cmb_iter hit.typeIs entry_cmb_iter ?_ (args_cmb_iter _))
    show wpAny _ _ (ret _) _ _ s
    exact wpAny_pure ⟨_, rfl, "itertools.combinations", _, hit.typeIs, slot_cmb_next.lookup, h⟩
/-- combinations(text, number) -/
def iComb (ta : TA) : TI := fun σ H R => ta σ H fun vs H1 => ∃ (l : List Nat) (r : Nat), vs = [.str (tx l), .int (r : Int)] ∧ l.length ≤ 6 ∧ r ≤ l.length ∧ R (IteC l r) H1
theorem pi_comb {X : Cx} {tg : Expr} {e e2 : Expr} {ta : TA} {p pos : Pos} {f : Str} (hg : Gl X f) (hm : X.mg f = some (.type "itertools.combinations")) (ha : PA X [e, e2] ta) (hc : X.calm = true) (hdb : (f == ("__debug__" : Str)) = false := by decide +kernel) (hs : starEach (e :: [e2]) X.env = (false, eval e X.env) :: starEach [e2] X.env := by rfl) (hpl : (backTo pos (starEach [e2] X.env)).any (·.1) = false := by rfl) :
    PI X tg (.Call (.Name f p) [e, e2] [] pos) (iComb ta) := by
  refine ⟨fun pins s σ H R I h => ?_⟩
  refine Call_ (ld_glob I hg hm (PyProof.Rows.callWith_type1 (thn (ha.run pos pins s σ H _ I h) fun us s1 ⟨vs, H1, I1, r1, q1⟩ => ?_) hs hpl) hdb)
  obtain ⟨l, r, rfl, hn, hr, q⟩ := q1
  cases r1 with
  | cons r0 rr =>
    cases rr with
    | cons r2 rr =>
      cases rr
      obtain ⟨t, rfl⟩ := r0
      obtain ⟨t2, rfl⟩ := r2
      have hsz : (tx l).cps.size = l.length := by simp [tx]
      refine callType_newIn called_cmb (by decide +kernel) (typeCall_cmb_2 _ _) (newCall_cmb_2 _ _) (fun obj => F.args_object_init_3 obj _ _) entry_cmb_new (meets_cmb_new (tx l) t r t2 (by omega) (by omega)) ?_
      refine ⟨I1.ok.hd hc, fun hm tk acc k ia => ?_⟩
      rw [hsz] at ia
      have I2 : Inv X pins σ H1 { s1 with heap := hm, toks := tk } := I1.kept k
      have hit : IsCmb ((hm.push (pObj acc)).push (cObj hm.objs.size 0 .none (List.range r))) (hm.objs.size + 1) hm.objs.size 0 .none (List.range r) :=
        ⟨_, by
          have e : (hm.push (pObj acc)).objs.size = hm.objs.size + 1 := by simp [Heap.push]
          rw [← e]
          exact Heap.get?_push_size _ rfl, rfl, rfl⟩
      have hpl2 : ((hm.push (pObj acc)).push (cObj hm.objs.size 0 .none (List.range r))).get? hm.objs.size = some (pObj acc) := Heap.get?_push_of_some _ (Heap.get?_push_size _ rfl)
      have I3 : Inv X pins σ H1 { s1 with heap := (hm.push (pObj acc)).push (cObj hm.objs.size 0 .none (List.range r)), toks := tk } := I2.kept (t' := tk) fun b o e => Heap.get?_push_of_some _ (Heap.get?_push_of_some _ e)
      have hfp : ∀ b ∈ [hm.objs.size + 1, hm.objs.size], FpOk X pins H1 b := fun b hb => by
        have hle : hm.objs.size ≤ b := by
          rcases List.mem_cons.mp hb with z | z
          · rw [z]; exact Nat.le_add_right _ _
          · rw [List.mem_singleton.mp z]; exact Nat.le_refl _
        exact I2.fpOk hle (I2.hok.fresh hle)
      have hT : ({ s1 with heap := (hm.push (pObj acc)).push (cObj hm.objs.size 0 .none (List.range r)), toks := tk } : Shared).TypeIs (.ref (hm.objs.size + 1)) "itertools.combinations" := let ⟨o, ho, hc2, _⟩ := hit; ⟨o, ho, hc2⟩
      obtain ⟨c0, c1, _⟩ := cmbs_f hn hr
      refine ⟨hT, ?_⟩
      refine wpAny_pyIter_slot hT slot_cmb_iter (wpAny_call_entry slot_cmb_iter hT entry_cmb_iter ?_ (args_cmb_iter _))
      show wpAny _ _ (ret _) _ _ _
      refine wpAny_pure ⟨_, rfl, "itertools.combinations", _, hT, slot_cmb_next.lookup, ?_⟩
      exact ⟨hm.objs.size + 1, [hm.objs.size + 1, hm.objs.size], _, _, H1, rfl, I3, turn_comb hn hr (hm.objs.size + 1) hm.objs.size acc ia, ⟨Nat.zero_le _, ⟨_, by rw [if_pos rfl, c1]; exact hit⟩, hpl2, Nat.ne_of_lt (Nat.lt_succ_self _)⟩, hfp, q⟩
section
variable {P : Program} {w : World} {K : PySem.W.Frag} {g : TG} {tb : TS} {D : Ends} {σ : L2.St} {H : Hp}
theorem forComb {l : List Nat} {r : Nat} (Pv : Nat → L2.St → Hp → Prop) (h0 : Pv 0 σ H) (hs : ∀ i T σ H, i < (cmbs l.length r).length → Pv i σ H → H T = none → g (.ref T) σ (upd H T (.tup (pick l ((cmbs l.length r).getD i [])))) fun σ2 H2 => tb { D with nx := Pv (i + 1), ct := Pv (i + 1), bk := D.nx } σ2 H2)
    (hd : ∀ σ H, Pv (cmbs l.length r).length σ H → D.nx σ H) : contF g tb D σ (IteC l r) H := by
  refine ⟨fun i m σ H => m = (cmbs l.length r).length - i ∧ i ≤ (cmbs l.length r).length ∧ Pv i σ H, ⟨(cmbs l.length r).length, by simp, Nat.zero_le _, h0⟩, ?_⟩
  rintro i m σ H ⟨rfl, hi, p⟩
  by_cases hlt : i < (cmbs l.length r).length
  · refine .inr ⟨hlt, Pv (i + 1), fun σ' H' p' => ⟨(cmbs l.length r).length - (i + 1), by omega, rfl, hlt, p'⟩, fun y H' hy => ?_⟩
    obtain ⟨T, rfl, hT, rfl⟩ := hy
    exact hs i T σ H hlt p hT
  · have e : i = (cmbs l.length r).length := by omega
    subst e
    exact .inl ⟨Nat.le_refl _, hd σ H p⟩
end
end AK
set_option Elab.async false
set_option linter.all false
set_option maxRecDepth 100000
/-! several except clauses, with or without a name -/
namespace L2
open PySem PySem.Spec PyProof.Rows
/-- an exception that was caught: it lies in the air of h3 -/
structure Cgt (X : Cx) (pins : List (Addr × Obj)) (a : Addr) (B : Heap) (sI : Shared) (σ : St) (H : Hp) (cls : Value) (d : Option Addr) (s' : Shared) (h3 : Heap) : Prop where
  J : Inv X pins σ H sI
  nb : ∀ b o, sI.heap.get? b = some o → b ∉ frs X.stack → B.get? b = some o
  up : sI.heap.UpToSlots h3
  na : H a = none
  os : s'.os = sI.os
  ag : AllBare s'.gens
  fl : HandSPX.FlyingZ B (X.env :: X.outer) a (Zc cls d) h3
  nL : a ≠ X.env.locals
  nF : a ∉ X.fs
/-- clauses that answer it -/
def Hdl (X : Cx) (hds : List ExceptHandler) (W : Ends → WX) : Prop := ∀ {pins : List (Addr × Obj)} {a : Addr} {B : Heap} {sI : Shared} {σ : St} {H : Hp} {cls : Value} {d : Option Addr} {s' : Shared} {h3 : Heap} {D : Ends},
  Cgt X pins a B sI σ H cls d s' h3 → W D cls d σ H → wpAny (model X.prog X.w) X.A (handleBy (.ref a) X.env hds) (SP X pins D) X.xe { s' with heap := h3 }
section
variable {X : Cx} {x n : Str} {c : Value} {i : Nat} {body suite : List Stmt} {b₀ : Stmt} {h₀ : ExceptHandler} {hds : List ExceptHandler} {np pos pos' : Pos} {tb : WX → TS} {ts : Addr → Value → Option Addr → TS} {Wout : WX} {W : Ends → WX}
theorem Cgt.inv {pins : List (Addr × Obj)} {a : Addr} {B : Heap} {sI : Shared} {σ : St} {H : Hp} {cls : Value} {d : Option Addr} {s' : Shared} {h3 : Heap} (C : Cgt X pins a B sI σ H cls d s' h3) : Inv X pins σ H { s' with heap := h3 } := C.J.landed C.nb C.fl.1 C.up C.os C.ag
theorem hdl_nil (hs : X.stack = X.env :: X.outer) (hf : X.env.frame = some X.env.locals) (tk : Takes X Wout) : Hdl X [] (fun _ => Wout) := by
  intro pins a B sI σ H cls d s' h3 D C w
  refine wpAny_handleBy_nil ?_
  obtain ⟨_, _, _, oe, vs, T, oT, ts, he, hz, hd, h1, hr⟩ := id C.fl
  unfold PySem.passOn
  refine wpAny_bind (wpAny_field he hd h1 ?_)
  rw [if_neg (show ¬ ((Value.ref T == Value.none) = true) from by simp)]
  have fin : wpAny (model X.prog X.w) X.A (setFlight (.ref a) X.env.frame) (fun _ s4 => wpAny (model X.prog X.w) X.A (throw (.ref a) : Sem Flow) (SP X pins D) X.xe s4) X.xe { s' with heap := h3 } := by
    rw [hf]
    exact HandSPX.setFlight_upZ C.fl fun h4 hh4 up4 => wpAny_throw (tk _ _ ⟨a, B, sI, pins, σ, H, cls, d, rfl, C.J, C.nb, C.up.trans up4, .inr (.inr (by rw [hs]; exact hh4)), C.na, C.os, C.ag, w⟩)
  first
    | exact wpAny_bind (wpAny_pure (wpAny_bind fin))
    | exact wpAny_bind fin
/-- a clause is tested -/
theorem hdl_test {pins : List (Addr × Obj)} {a : Addr} {B : Heap} {sI : Shared} {σ : St} {H : Hp} {cls : Value} {d : Option Addr} {s' : Shared} {h3 : Heap} {Q : Value → Shared → Prop} {E : Value → Shared → Prop} (C : Cgt X pins a B sI σ H cls d s' h3) (hc : Names X x c) (q : Q c { s' with heap := h3 }) :
    wpAny (model X.prog X.w) (X.A.mark (some (.ref a))) (eval (.Name x np) X.env) Q E { s' with heap := h3 } := by
  obtain ⟨oe, vs, he, hz, hd⟩ := C.fl.there
  have S := C.inv.suite he hd C.na C.nL C.nF
  obtain ⟨hg, hdbg, hm | ⟨hm, hv, hnn⟩⟩ := hc
  · exact ld_glob (X := X.suite a ((a, oe) :: (X.pn ++ pins))) S hg hm q hdbg
  · exact ld_blt (X := X.suite a ((a, oe) :: (X.pn ++ pins))) S hg hm hv q hnn hdbg
theorem hdl_is {pins : List (Addr × Obj)} {a : Addr} {B : Heap} {sI : Shared} {σ : St} {H : Hp} {cls : Value} {d : Option Addr} {s' : Shared} {h3 : Heap} {b : Bool} (C : Cgt X pins a B sI σ H cls d s' h3) (hb : PySem.W.exmOne X.K cls c = some b) :
    PySem.W.Looks (model X.prog X.w) h3 (excMatches (.ref a) c) b := by
  obtain ⟨oe, vs, he, hz, hd⟩ := C.fl.there
  have LT : PySem.W.Looks (model X.prog X.w) h3 (typeOf (.ref a)) cls := fun A Q E s k q => wpAny_typeOf_ref (k _ _ he) (by rw [hz.1]; exact q)
  exact PySem.W.exm_one (K := X.K) C.inv.kIn LT hb
theorem hdl_one (hc : Names X x c) (hsu : ∀ (a : Addr) (oe : Obj) (cls : Value) (d : Option Addr) (pn : List (Addr × Obj)), Zc cls d oe → (∃ vs, oe.data = .fields vs) → PSs (X.suite a ((a, oe) :: pn)) (b₀ :: suite) (ts a cls d)) (r : Hdl X hds W) :
    Hdl X (.ExceptHandler (some (.Name x np)) none (b₀ :: suite) pos' :: hds) (fun D cls d σ H => ∃ b, PySem.W.exmOne X.K cls c = some b ∧ (b = true → ∀ a, H a = none → ts a cls d D σ H) ∧ (b = false → W D cls d σ H)) := by
  intro pins a B sI σ H cls d s' h3 D C ⟨b, hb, hyes, hno⟩
  refine wpAny_handleBy_cons (codeAny_handlers_test ?_) (by intro q; cases q)
  refine hdl_test C hc ((hdl_is C hb).here ?_)
  cases b with
  | false => exact r C (hno rfl)
  | true =>
    refine codeAny_handlers_suite (HandSPX.lands_againZ C.fl fun h4 fl4 up4 => ?_)
    have J4 : Inv X pins σ H { s' with heap := h4 } := C.J.landed C.nb fl4.1 (C.up.trans up4) C.os C.ag
    obtain ⟨oe4, vs4, he4, hz4, hd4⟩ := fl4.there
    refine wpAny_mono ((hsu a oe4 cls d (X.pn ++ pins) hz4 ⟨_, hd4⟩).run [] _ _ H _ (J4.suite he4 hd4 C.na C.nL C.nF) (hyes rfl a C.na)) (fun f s6 z => ?_) (fun _ _ z => False.elim z)
    cases f <;> first
      | (obtain ⟨σ6, H6, S6, q6⟩ := z
         exact ⟨_, _, S6.unsuite C.J.ok, q6⟩)
      | (obtain ⟨v6, σ6, H6, S6, r6, q6⟩ := z
         exact ⟨_, _, _, S6.unsuite C.J.ok, r6, q6⟩)
theorem hdl_as (hN : X.N.Nodup) (hi : X.N[i]? = some n) (hln : X.env.kindOf n = some .local) (hc : Names X x c) (hsu : ∀ (a : Addr) (oe : Obj) (cls : Value) (d : Option Addr) (pn : List (Addr × Obj)), Zc cls d oe → (∃ vs, oe.data = .fields vs) → PSs (X.suite a ((a, oe) :: pn)) (b₀ :: suite) (ts a cls d)) (r : Hdl X hds W) :
    Hdl X (.ExceptHandler (some (.Name x np)) (some n) (b₀ :: suite) pos' :: hds) (fun D => wAs X.K c i ts (W D) D) := by
  intro pins a B sI σ H cls d s' h3 D C ⟨b, hb, hyes, hno⟩
  refine wpAny_handleBy_cons (codeAny_handlers_test ?_) (by intro q; cases q)
  refine hdl_test C hc ((hdl_is C hb).here ?_)
  cases b with
  | false => exact r C (hno rfl)
  | true =>
    refine codeAny_handlers_suite_as (HandSPX.lands_againZ C.fl fun h4 fl4 up4 => ?_)
    have J4 : Inv X pins σ H { s' with heap := h4 } := C.J.landed C.nb fl4.1 (C.up.trans up4) C.os C.ag
    obtain ⟨oe4, vs4, he4, hz4, hd4⟩ := fl4.there
    refine store_ok (X := X.suite a ((a, oe4) :: (X.pn ++ pins))) (v := .ref a) (J4.suite he4 hd4 C.na C.nL C.nF) hN hi (.inl hln) rfl (fun s5 S5 => ?_) (.inr hln)
    refine wpAny_mono ((hsu a oe4 cls d (X.pn ++ pins) hz4 ⟨_, hd4⟩).run [] s5 _ H _ S5 (hyes rfl a C.na)) (fun f s6 z => ?_) (fun _ _ z => False.elim z)
    cases f <;> first
      | (obtain ⟨σ6, H6, S6, q6⟩ := z
         exact gone_ok (S6.unsuite C.J.ok) hN hi hln fun s7 J7 => ⟨_, _, J7, q6⟩)
      | (obtain ⟨v6, σ6, H6, S6, r6, q6⟩ := z
         exact gone_ok (S6.unsuite C.J.ok) hN hi hln fun s7 J7 => ⟨_, _, _, J7, r6, q6⟩)
theorem ps_try_hdl (hs : X.stack = X.env :: X.outer) (hf : X.env.frame = some X.env.locals)
    (hb : ∀ (W : WX) (pn : List (Addr × Obj)) (xe : Value → Shared → Prop), Takes (X.tr pn xe) W → PassesOwn (model X.prog X.w) X.A X.env xe → PSs (X.tr pn xe) body (tb W))
    (hh : Hdl X (h₀ :: hds) W) : PS X (.Try body (h₀ :: hds) [] [] pos) (fun D σ H => tb (W D) D σ H) := by
  refine ⟨fun pins s σ H D I h => wpAny_Try_except ?_⟩
  have ok := I.ok
  refine wpAny_mono ((hb (W D) (X.pn ++ pins) (fun e s₁ => wpAny (model X.prog X.w) X.A (noteFrame e X.env) (fun _ s₂ => wpAny (model X.prog X.w) X.A (setFlight e none) (fun _ s₃ =>
    wpAny (model X.prog X.w) X.A (handleBy e X.env (h₀ :: hds)) (SP X pins D) X.xe s₃) X.xe s₂) X.xe s₁) (fun u s' xx => ?_) PassesOwn.looking).run [] s σ H D (I.toTry _) h) (fun f s1 z => ?_) (fun e s1 he => he)
  · obtain ⟨a, B, sI, pins', σ', H', cls, d, rfl, J', nb, up, sky, na, os, ag, w⟩ := xx
    have J : Inv X pins σ' H' sI := J'.ofTry ok
    refine Sky.land Zc.steady (by rw [ok.frames, hs]) hf (show Sky B (X.env :: X.outer) a (Zc cls d) X.env.locals s'.heap from by rw [← hs]; exact sky) fun h3 fl3 up3 => ?_
    obtain ⟨oe, vs, he, _, hd⟩ := fl3.there
    have nfr : a ∉ frs (X.env :: X.outer) := fun hm => by
      obtain ⟨_, o', e', hnf⟩ := fl3.2.2.1.mem hm
      rw [he] at e'
      cases e'
      exact hnf _ hd
    exact hh ⟨J, nb, up.trans up3, na, os, ag, fl3, fun z => nfr (List.mem_filterMap.mpr ⟨X.env, List.mem_cons_self, by rw [hf, z]⟩), fun hm => by
      obtain ⟨e, he', q⟩ := List.mem_filterMap.mp hm
      exact nfr (List.mem_filterMap.mpr ⟨e, List.mem_cons_of_mem _ he', q⟩)⟩ w
  · cases f <;> first
      | (obtain ⟨σ', H', J', q⟩ := z
         first
           | exact wpAny_execs_nil ⟨σ', H', J'.ofTry ok, q⟩
           | exact ⟨σ', H', J'.ofTry ok, q⟩)
      | (obtain ⟨v, σ', H', J', r, q⟩ := z
         exact ⟨v, σ', H', J'.ofTry ok, r, q⟩)
end
end L2
set_option Elab.async false
set_option linter.all false
set_option maxRecDepth 100000
set_option maxHeartbeats 4000000
namespace AK
open PySem PySem.Spec PyProof.Rows L2
/-! ### data that the heap holds itself -/
mutual
def DH (H : Hp) : PyData → V → Prop
  | .int i, v => v = .int i
  | .str s, v => v = .str s
  | .bool b, v => v = .bl b
  | .none, v => v = .non
  | .tuple ds, v => ∃ p xs, v = .ref p ∧ H p = some (.tup xs) ∧ DHs H ds xs
  | .list ds, v => ∃ p xs, v = .ref p ∧ H p = some (.lst xs) ∧ DHs H ds xs
  | _, _ => False
def DHs (H : Hp) : List PyData → List V → Prop
  | [], xs => xs = []
  | d :: ds, xs => ∃ x r, xs = x :: r ∧ DH H d x ∧ DHs H ds r
end
mutual
/-- no list within -/
def flatD : PyData → Bool
  | .tuple ds => flatDs ds
  | .list _ => false
  | .dict _ => false
  | _ => true
def flatDs : List PyData → Bool
  | [] => true
  | d :: ds => flatD d && flatDs ds
end
mutual
theorem DH.imp {H H' : Hp} (s : Same H H') : ∀ (d : PyData) (v : V), DH H d v → DH H' d v
  | .int _, _, h => h
  | .str _, _, h => h
  | .bool _, _, h => h
  | .none, _, h => h
  | .tuple ds, v, h => by
    unfold DH at h ⊢
    obtain ⟨p, xs, e, hp, hs⟩ := h
    exact ⟨p, xs, e, s _ _ hp, DHs.imp s ds xs hs⟩
  | .list ds, v, h => by
    unfold DH at h ⊢
    obtain ⟨p, xs, e, hp, hs⟩ := h
    exact ⟨p, xs, e, s _ _ hp, DHs.imp s ds xs hs⟩
  | .dict _, _, h => by unfold DH at h; exact h.elim
theorem DHs.imp {H H' : Hp} (s : Same H H') : ∀ (ds : List PyData) (xs : List V), DHs H ds xs → DHs H' ds xs
  | [], _, h => h
  | d :: ds, xs, h => by
    unfold DHs at h ⊢
    obtain ⟨x, r, e, h1, h2⟩ := h
    exact ⟨x, r, e, DH.imp s d x h1, DHs.imp s ds r h2⟩
end
mutual
theorem DH.dp {K : PySem.W.Frag} {H : Hp} : ∀ (d : PyData) (v : V), DH H d v → Dp K H v d
  | .int _, _, h => by unfold DH at h; subst h; exact .int _
  | .str _, _, h => by unfold DH at h; subst h; exact .str _
  | .bool _, _, h => by unfold DH at h; subst h; exact .bl _
  | .none, _, h => by unfold DH at h; subst h; exact .non
  | .tuple ds, v, h => by
    unfold DH at h
    obtain ⟨p, xs, rfl, hp, hs⟩ := h
    exact .tup (SqT.of hp) (DHs.dp ds xs hs)
  | .list ds, v, h => by
    unfold DH at h
    obtain ⟨p, xs, rfl, hp, hs⟩ := h
    exact .lst (SqL.of hp) (DHs.dp ds xs hs)
  | .dict _, _, h => by unfold DH at h; exact h.elim
theorem DHs.dp {K : PySem.W.Frag} {H : Hp} : ∀ (ds : List PyData) (xs : List V), DHs H ds xs → DpAll K H xs ds
  | [], _, h => by unfold DHs at h; subst h; exact .nil
  | d :: ds, xs, h => by
    unfold DHs at h
    obtain ⟨x, r, rfl, h1, h2⟩ := h
    exact .cons (DH.dp d x h1) (DHs.dp ds r h2)
end
mutual
/-- what holds no list is not touched by what is written at an address of no tuple -/
theorem DH.wr {H : Hp} {p : Addr} {o : HO} (hp : ∀ xs, H p ≠ some (.tup xs)) : ∀ (d : PyData) (v : V), flatD d = true → DH H d v → DH (upd H p o) d v
  | .int _, _, _, h => h
  | .str _, _, _, h => h
  | .bool _, _, _, h => h
  | .none, _, _, h => h
  | .tuple ds, v, f, h => by
    unfold DH at h ⊢
    obtain ⟨q, xs, e, hq, hs⟩ := h
    exact ⟨q, xs, e, by rw [upd_ne fun z => hp xs (by rw [← z]; exact hq)]; exact hq, DHs.wr hp ds xs (by unfold flatD at f; exact f) hs⟩
  | .list _, _, f, _ => by unfold flatD at f; cases f
  | .dict _, _, f, _ => by unfold flatD at f; cases f
theorem DHs.wr {H : Hp} {p : Addr} {o : HO} (hp : ∀ xs, H p ≠ some (.tup xs)) : ∀ (ds : List PyData) (xs : List V), flatDs ds = true → DHs H ds xs → DHs (upd H p o) ds xs
  | [], _, _, h => h
  | d :: ds, xs, f, h => by
    unfold DHs at h ⊢
    unfold flatDs at f
    rw [Bool.and_eq_true] at f
    obtain ⟨x, r, e, h1, h2⟩ := h
    exact ⟨x, r, e, DH.wr hp d x f.1 h1, DHs.wr hp ds r f.2 h2⟩
end
theorem DHs.len {H : Hp} : ∀ {ds : List PyData} {xs : List V}, DHs H ds xs → xs.length = ds.length
  | [], _, h => by unfold DHs at h; subst h; rfl
  | d :: ds, xs, h => by
    unfold DHs at h
    obtain ⟨x, r, rfl, _, h2⟩ := h
    rw [List.length_cons, List.length_cons, DHs.len h2]
theorem DHs.at {H : Hp} : ∀ {ds : List PyData} {xs : List V} {i : Nat} {x : V}, DHs H ds xs → xs[i]? = some x → ∃ d, ds[i]? = some d ∧ DH H d x
  | [], _, i, x, h, e => by
    unfold DHs at h
    subst h
    rw [List.getElem?_nil] at e
    cases e
  | d :: ds, xs, i, x, h, e => by
    unfold DHs at h
    obtain ⟨y, r, rfl, h1, h2⟩ := h
    match i with
    | 0 =>
      cases e
      exact ⟨d, rfl, h1⟩
    | i + 1 =>
      obtain ⟨d', h3⟩ := DHs.at h2 e
      exact ⟨d', h3⟩
theorem DHs.of {H : Hp} : ∀ {ds : List PyData} {xs : List V} {i : Nat} {d : PyData}, DHs H ds xs → ds[i]? = some d → ∃ x, xs[i]? = some x ∧ DH H d x
  | [], _, i, x, h, e => by
    rw [List.getElem?_nil] at e
    cases e
  | d :: ds, xs, i, x, h, e => by
    unfold DHs at h
    obtain ⟨y, r, rfl, h1, h2⟩ := h
    match i with
    | 0 =>
      cases e
      exact ⟨y, rfl, h1⟩
    | i + 1 =>
      obtain ⟨d', h3⟩ := DHs.of h2 e
      exact ⟨d', h3⟩
theorem DHs.app {H : Hp} : ∀ {ds es : List PyData} {xs ys : List V}, DHs H ds xs → DHs H es ys → DHs H (ds ++ es) (xs ++ ys)
  | [], _, _, _, h, k => by
    unfold DHs at h
    subst h
    exact k
  | d :: ds, es, xs, ys, h, k => by
    unfold DHs at h
    obtain ⟨x, r, rfl, h1, h2⟩ := h
    show DHs H (d :: (ds ++ es)) (x :: (r ++ ys))
    unfold DHs
    exact ⟨x, _, rfl, h1, DHs.app h2 k⟩
theorem DHs.one {H : Hp} {d : PyData} {x : V} (h : DH H d x) : DHs H [d] [x] := by
  unfold DHs
  exact ⟨x, [], rfl, h, by unfold DHs; rfl⟩
theorem DHs.nil {H : Hp} : DHs H [] [] := by unfold DHs; rfl
theorem DHs.two {H : Hp} {d e : PyData} {x y : V} (h : DH H d x) (k : DH H e y) : DHs H [d, e] [x, y] := DHs.app (DHs.one h) (DHs.one k)
theorem DHs.three {H : Hp} {d e f : PyData} {x y z : V} (h : DH H d x) (k : DH H e y) (l : DH H f z) : DHs H [d, e, f] [x, y, z] := DHs.app (DHs.one h) (DHs.two k l)
theorem DHs.take {H : Hp} : ∀ {ds : List PyData} {xs : List V} (n : Nat), DHs H ds xs → DHs H (ds.take n) (xs.take n)
  | _, _, 0, _ => by rw [List.take_zero, List.take_zero]; exact DHs.nil
  | [], _, n + 1, h => by
    unfold DHs at h
    subst h
    exact DHs.nil
  | d :: ds, xs, n + 1, h => by
    unfold DHs at h
    obtain ⟨x, r, rfl, h1, h2⟩ := h
    rw [List.take_succ_cons, List.take_succ_cons]
    unfold DHs
    exact ⟨x, _, rfl, h1, DHs.take n h2⟩
theorem DHs.drop {H : Hp} : ∀ {ds : List PyData} {xs : List V} (n : Nat), DHs H ds xs → DHs H (ds.drop n) (xs.drop n)
  | _, _, 0, h => h
  | [], _, n + 1, h => by
    unfold DHs at h
    subst h
    exact DHs.nil
  | d :: ds, xs, n + 1, h => by
    unfold DHs at h
    obtain ⟨x, r, rfl, h1, h2⟩ := h
    exact DHs.drop n h2
theorem flatDs_map {α : Type} (f : α → PyData) (h : ∀ a, flatD (f a) = true) : ∀ l : List α, flatDs (l.map f) = true
  | [] => by rw [List.map_nil, flatDs]
  | a :: l => by rw [List.map_cons, flatDs, h a, flatDs_map f h l]; rfl
/-- a list of data -/
def LstD (H : Hp) (D : Addr) (ds : List PyData) : Prop := ∃ xs, H D = some (.lst xs) ∧ DHs H ds xs
theorem LstD.same {H H' : Hp} {D : Addr} {ds : List PyData} (h : LstD H D ds) (s : Same H H') : LstD H' D ds := by
  obtain ⟨xs, e, k⟩ := h
  exact ⟨xs, s _ _ e, DHs.imp s _ _ k⟩
theorem LstD.nil {H : Hp} {D : Addr} (e : H D = some (.lst [])) : LstD H D [] := ⟨[], e, DHs.nil⟩
theorem LstD.dh {H : Hp} {D : Addr} {ds : List PyData} : LstD H D ds ↔ DH H (.list ds) (.ref D) := by
  unfold DH LstD
  constructor
  · rintro ⟨xs, e, k⟩
    exact ⟨D, xs, rfl, e, k⟩
  · rintro ⟨p, xs, e, h1, h2⟩
    cases e
    exact ⟨xs, h1, h2⟩
theorem LstD.add {H : Hp} {D : Addr} {ds : List PyData} {d : PyData} {x : V} {xs : List V} (h : LstD H D ds) (e : H D = some (.lst xs)) (f : flatDs ds = true) (fd : flatD d = true) (k : DH H d x) : LstD (upd H D (.lst (xs ++ [x]))) D (ds ++ [d]) := by
  obtain ⟨ys, e2, h2⟩ := h
  rw [e] at e2
  cases e2
  have hp : ∀ zs, H D ≠ some (.tup zs) := fun zs z => by rw [e] at z; cases z
  exact ⟨_, upd_same, DHs.app (DHs.wr hp _ _ f h2) (DHs.one (DH.wr hp _ _ fd k))⟩
end AK
set_option Elab.async false
set_option linter.all false
set_option maxRecDepth 100000
set_option maxHeartbeats 4000000
namespace AK
open PySem PySem.Spec PyProof.Rows L2
/-! ### dict(enumerate(t)), t a tuple -/
section
variable {prog : Program} {w : World} {A : Around} {E : Value → Shared → Prop} {s : Shared}
/-- the next pair, while the one before is still held -/
theorem enumT_next_held {e it l T : Addr} {i : Nat} {items : Array Value} {x old : Value} {f : Bool} {oT : Obj} {Q : Option Value → Shared → Prop}
    (he : IsEnumHeld s.heap e it i old T f) (hT : s.heap.get? T = some oT) (hTe : T ≠ e) (hTi : T ≠ it) (hit : s.heap.IsTupleIter it l i) (hl : s.heap.IsTuple l items) (hx : items[i]? = some x) (hne : e ≠ it)
    (hQ : ∀ h', IsEnumHeld h' e it ((i : Int) + 1) old T true → h'.IsTupleIter it l (i + 1) → h'.get? s.heap.objs.size = some { cls := .type "tuple", data := .seq #[.int i s.toks, x] } →
      (∀ b o, b ≠ e → b ≠ it → s.heap.get? b = some o → h'.get? b = some o) → Q (some (.ref s.heap.objs.size)) { s with heap := h', toks := s.toks + 1 }) :
    wpAny (model prog w) A (pyNext (.ref e)) Q E s := by
  have hTy : s.TypeIs (.ref e) "enumerate" := ⟨_, he, rfl⟩
  unfold pyNext
  refine wpAny_bind (wpAny_attempt (wpAny_callSpecial?_slot (name := Str.ofString "__next__") hTy F.slot_enumerate_next (wpAny_call_entry F.slot_enumerate_next hTy F.entry_enumerate_next ?_ (F.args_enumerate_next_1 _))))
  obtain ⟨hp, g, d, tk, os⟩ := s
  have hel : e < hp.objs.size := Heap.lt_size he
  show wpAny _ _ (field (.ref e) 2 >>= _) _ _ _
  refine wpAny_bind (wpAny_field he rfl (x := .ref it) rfl (wpAny_bind (wpAny_nextOf_tuple_item hit hl hx fun h₁ hit₁ (hs₁ : Heap.SameBut it hp h₁) => ?_)))
  have he₁ : IsEnumHeld h₁ e it i old T f := (hs₁.2 e hne).trans he
  show wpAny _ _ (field (.ref e) 3 >>= _) _ _ ⟨h₁, g, d, tk, os⟩
  refine wpAny_bind (wpAny_field he₁ rfl (x := rawInt i) rfl ?_)
  show wpAny _ _ (field (.ref e) 4 >>= _) _ _ ⟨h₁, g, d, tk, os⟩
  refine wpAny_bind (wpAny_field he₁ rfl (x := .none) rfl ?_)
  show wpAny _ _ (mkInt i >>= _) _ _ ⟨h₁, g, d, tk, os⟩
  refine wpAny_bind (wpAny_mkInt ?_)
  show wpAny _ _ (setField (.ref e) 3 (rawInt ((i : Int) + 1)) >>= _) _ _ ⟨h₁, g, d, tk + 1, os⟩
  refine wpAny_bind (wpAny_setField_rec he₁ (by simp) fun h₂ (he₂ : IsEnumHeld h₂ e it ((i : Int) + 1) old T f) (hs₂ : Heap.SameBut e h₁ h₂) => ?_)
  show wpAny _ _ (setField (.ref e) 4 .none >>= _) _ _ ⟨h₂, g, d, tk + 1, os⟩
  refine wpAny_bind (wpAny_setField_rec he₂ (by simp) fun h₃ (he₃ : IsEnumHeld h₃ e it ((i : Int) + 1) old T f) (hs₃ : Heap.SameBut e h₂ h₃) => ?_)
  show wpAny _ _ (newTuple [.int i tk, x] >>= _) _ _ ⟨h₃, g, d, tk + 1, os⟩
  refine wpAny_bind (wpAny_newTuple ?_)
  have hsz : h₃.objs.size = hp.objs.size := by rw [hs₃.1, hs₂.1, hs₁.1]
  have k3 : ∀ b o, b ≠ e → b ≠ it → hp.get? b = some o → (h₃.push { cls := .type "tuple", data := .seq #[.int i tk, x] }).get? b = some o := fun b o hbe hbi hb => Heap.get?_push_of_some _ (hs₃.extBut b o hbe (hs₂.extBut b o hbe (hs₁.extBut b o hbi hb)))
  have t3 : (h₃.push { cls := .type "tuple", data := .seq #[.int i tk, x] }).get? hp.objs.size = some { cls := .type "tuple", data := .seq #[.int i tk, x] } := by rw [← hsz]; exact Heap.get?_push_size _ rfl
  have i3 : (h₃.push { cls := .type "tuple", data := .seq #[.int i tk, x] }).IsTupleIter it l (i + 1) := by
    obtain ⟨o, ho, r⟩ := (hit₁.extBut hs₂.extBut (Ne.symm hne)).extBut hs₃.extBut (Ne.symm hne)
    exact ⟨o, Heap.get?_push_of_some _ ho, r⟩
  have e3 : IsEnumHeld (h₃.push { cls := .type "tuple", data := .seq #[.int i tk, x] }) e it ((i : Int) + 1) old T f := Heap.get?_push_of_some _ he₃
  generalize h₃.push { cls := .type "tuple", data := .seq #[.int i tk, x] } = h₄ at k3 t3 i3 e3
  show wpAny _ _ (Builtin.SmallTypes.ownedTupleIsFree (.ref e) >>= _) _ _ ⟨h₄, g, d, tk + 1, os⟩
  rw [hsz]
  refine wpAny_bind (wpAny_tupleHeld_enum (s := ⟨h₄, g, d, tk + 1, os⟩) e3 (k3 T oT hTe hTi hT) fun h₅ he₅ (hs₅ : Heap.SameBut e h₄ h₅) => ?_)
  simp only [Bool.false_eq_true, if_false]
  refine wpAny_pure ⟨_, rfl, wpAny_pure (hQ h₅ he₅ (i3.extBut hs₅.extBut (Ne.symm hne)) (hs₅.extBut _ _ (Nat.ne_of_gt hel) t3) fun b o hbe hbi hb => hs₅.extBut b o hbe (k3 b o hbe hbi hb))⟩
theorem enumT_end_held {e it l T : Addr} {i : Nat} {items : Array Value} {old : Value} {f : Bool} {Q : Option Value → Shared → Prop} (hh : A.handled = none)
    (he : IsEnumHeld s.heap e it i old T f) (hit : s.heap.IsTupleIter it l i) (hl : s.heap.IsTuple l items) (hx : items[i]? = none)
    (hQ : ∀ h', Heap.ExtBut it s.heap h' → Q none { s with heap := h' }) : wpAny (model prog w) A (pyNext (.ref e)) Q E s := by
  have hTy : s.TypeIs (.ref e) "enumerate" := ⟨_, he, rfl⟩
  unfold pyNext
  refine wpAny_bind (wpAny_attempt (wpAny_callSpecial?_slot (name := Str.ofString "__next__") hTy F.slot_enumerate_next (wpAny_call_entry F.slot_enumerate_next hTy F.entry_enumerate_next ?_ (F.args_enumerate_next_1 _))))
  show wpAny _ _ (field (.ref e) 2 >>= _) _ _ _
  refine wpAny_bind (wpAny_field he rfl (x := .ref it) rfl (wpAny_bind (wpAny_nextOf_tuple_end (show A.in1.handled = none from hh) hit hl hx fun h' x eb hx' => ?_)))
  obtain ⟨o, ho, hc⟩ := hx'
  exact wpAny_bind (wpAny_isInstance (T := "StopIteration") (b := true) ⟨o, ho, hc⟩ isSubtype_stop (wpAny_pure (hQ _ eb)))
end
theorem pairArg_enumT {prog : Program} {w : World} (e it l : Addr) (hei : e ≠ it) (hle : l ≠ e) (hli : l ≠ it) (items : Array Value) :
    PairArg prog w "enumerate" e [e, it, l] [e, it] items.size (fun i k v => (∃ t, k = .int i t) ∧ items[i]? = some v) (fun h => (∃ old, IsEnum h e it 0 old) ∧ h.IsTupleIter it l 0 ∧ h.IsTuple l items) where
  type := fun s ok => let ⟨⟨_, he⟩, _⟩ := ok; ⟨_, he, rfl⟩
  notDict := by decide
  keep := fun h h' ok hk => let ⟨⟨old, he⟩, hit, hl⟩ := ok; ⟨⟨old, hk _ _ he⟩, hit.at fun o x => hk _ o x, hl.at fun o x => hk _ o x⟩
  there := fun h ok b hb => by
    obtain ⟨⟨old, he⟩, ⟨o1, h1, _⟩, ⟨o2, h2, _⟩⟩ := ok
    rcases List.mem_cons.mp hb with z | hb
    · exact z ▸ ⟨_, he⟩
    · rcases List.mem_cons.mp hb with z | hb
      · exact z ▸ ⟨_, h1⟩
      · exact List.mem_singleton.mp hb ▸ ⟨_, h2⟩
  sub := fun b hb => by
    rcases List.mem_cons.mp hb with z | hb
    · exact z ▸ List.mem_cons_self
    · exact List.mem_cons_of_mem _ (List.mem_singleton.mp hb ▸ List.mem_cons_self)
  noKeys := fun A s Q E hA ok h => let ⟨⟨_, he⟩, _⟩ := ok; getAttrOr_miss_enumerate he rfl rfl rfl enumerate_no_keys (by decide +kernel) hA h
  iter := fun A s d Q E hA ok hd hdf h => by
    obtain ⟨⟨old, he⟩, hit, hl⟩ := ok
    have de : d ≠ e := fun z => hdf (z ▸ List.mem_cons_self)
    have dit : d ≠ it := fun z => hdf (z ▸ List.mem_cons_of_mem _ List.mem_cons_self)
    have dl : d ≠ l := fun z => hdf (z ▸ List.mem_cons_of_mem _ (List.mem_cons_of_mem _ List.mem_cons_self))
    have out : ∀ {b : Addr}, b ∉ [e, it] → b ≠ e ∧ b ≠ it := fun {b} hb => ⟨fun y => hb (by simp [y]), fun y => hb (by simp [y])⟩
    refine wpAny_pyIter_enum he (h e [e, it] (fun i h => h.IsTupleIter it l i ∧ h.IsTuple l items ∧ ((∃ old, IsEnum h e it i old) ∨ ∃ old T f oT, IsEnumHeld h e it i old T f ∧ h.get? T = some oT ∧ T ≠ e ∧ T ≠ it ∧ T ≠ d)) s.heap s.toks ?_ ⟨hit, hl, .inl ⟨old, he⟩⟩ (fun _ _ e => e) fun b hb => .inl hb)
    exact {
      off := fun hm => by
        rcases List.mem_cons.mp hm with x | x
        · exact de x
        · exact dit (List.mem_singleton.mp x)
      frame := fun i h₁ h₂ st hk => by
        obtain ⟨hit, hl, he⟩ := st
        refine ⟨hit.at fun o x => hk _ o (Ne.symm dit) x, hl.at fun o x => hk _ o (Ne.symm dl) x, ?_⟩
        rcases he with ⟨old, he⟩ | ⟨old, T, f, oT, he, hT, r1, r2, r3⟩
        · exact .inl ⟨old, hk _ _ (Ne.symm de) he⟩
        · exact .inr ⟨old, T, f, oT, hk _ _ (Ne.symm de) he, hk _ _ r3 hT, r1, r2, r3⟩
      item := fun i s₁ Q₁ E₁ hi st hds hQ => by
        obtain ⟨hit, hl, he⟩ := st
        have ex := Array.getElem?_eq_getElem hi
        have ec : ((i + 1 : Nat) : Int) = (i : Int) + 1 := by omega
        have nit : s₁.heap.objs.size ≠ it := let ⟨_, x, _⟩ := hit; Nat.ne_of_gt (Heap.lt_size x)
        rcases he with ⟨old, he⟩ | ⟨old, T, f, oT, he, hT, r1, r2, r3⟩
        · refine wpAny_pyNext_enum_itemD (Draws.tuple (A := A.in1) (show A.in1.handled = none from hA) it l hli items) he ⟨hit, hl⟩ hi hei (fun z => ?_) fun v h' tk hv ho st' hT hsz hk => ?_
          · rcases List.mem_cons.mp z with z | z
            · exact hei z
            · exact hle (List.mem_singleton.mp z).symm
          · exact hQ s₁.heap.objs.size _ _ h' (tk + 1) ⟨⟨_, rfl⟩, hv⟩ (.inl ⟨_, hT, rfl, _, rfl⟩) ⟨st'.1, st'.2, .inr ⟨_, s₁.heap.objs.size, false, _, (by rw [ec]; exact ho), hT, Nat.ne_of_gt (Heap.lt_size he), nit, Nat.ne_of_gt hds⟩⟩ fun b o hb x => hk b o (out hb).1 (out hb).2 x
        · refine enumT_next_held he hT r1 r2 hit hl ex hei fun h' ho hit' hT' hk => ?_
          exact hQ s₁.heap.objs.size _ _ h' (s₁.toks + 1) ⟨⟨_, rfl⟩, ex⟩ (.inl ⟨_, hT', rfl, _, rfl⟩) ⟨hit', hl.at fun o x => hk l o hle hli x, .inr ⟨old, T, true, oT, (by rw [ec]; exact ho), hk _ _ r1 r2 hT, r1, r2, r3⟩⟩ fun b o hb x => hk b o (out hb).1 (out hb).2 x
      done := fun s₁ Q₁ E₁ st hQ => by
        obtain ⟨hit, hl, he⟩ := st
        have hx : items[items.size]? = none := Array.getElem?_eq_none (Nat.le_refl _)
        rcases he with ⟨old, he⟩ | ⟨old, T, f, oT, he, hT, r1, r2, r3⟩
        · exact wpAny_pyNext_enum_endD (Draws.tuple (A := A.in1) (show A.in1.handled = none from hA) it l hli items) he ⟨hit, hl⟩ fun h' hk => hQ h' s₁.toks fun b o hb x => hk b o (out hb).2 x
        · exact enumT_end_held hA he hit hl hx fun h' hk => hQ h' s₁.toks fun b o hb x => hk b o (out hb).2 x }
/-- numbered from j on -/
def enK {α : Type} : Nat → List α → List (L2.Key × α)
  | _, [] => []
  | j, x :: r => (.inl (j : Int), x) :: enK (j + 1) r
theorem enK_len {α : Type} : ∀ (l : List α) (j : Nat), (enK j l).length = l.length
  | [], _ => rfl
  | x :: l, j => by rw [enK, List.length_cons, List.length_cons, enK_len l]
theorem enK_at {α : Type} : ∀ (l : List α) (j i : Nat), (enK j l)[i]? = (l[i]?).map fun x => ((.inl ((j + i : Nat) : Int) : L2.Key), x)
  | [], _, _ => rfl
  | x :: l, j, 0 => rfl
  | x :: l, j, i + 1 => by rw [enK, List.getElem?_cons_succ, List.getElem?_cons_succ, enK_at l (j + 1) i, show j + 1 + i = j + (i + 1) from by omega]
theorem enK_kv : ∀ {xs : List V} {us : List Value} (j : Nat), Vals xs us → KV (enK j xs) (enK j us)
  | _, _, _, .nil => .nil
  | _, _, j, .cons h t => .cons ⟨rfl, h⟩ (enK_kv (j + 1) t)
theorem enK_any (i : Int) : ∀ (xs : List V) (j : Nat), i < j → (enK j xs).any (fun kv => decide (kv.1 = (.inl i : L2.Key))) = false
  | [], _, _ => rfl
  | x :: r, j, h => by
    rw [enK, List.any_cons, enK_any i r (j + 1) (by omega), Bool.or_false]
    exact decide_eq_false fun z => by
      have := Sum.inl.inj z
      omega
theorem enK_merge (xs : List V) : mergeK [] (enK 0 xs) = enK 0 xs := by
  have key : ∀ (r l : List V), mergeK (enK 0 l) (enK l.length r) = enK 0 (l ++ r) := by
    intro r
    induction r with
    | nil =>
      intro l
      rw [List.append_nil]
      rfl
    | cons x r ih =>
      intro l
      have app : ∀ (a b : List V) (j : Nat), enK j (a ++ b) = enK j a ++ enK (j + a.length) b := by
        intro a
        induction a with
        | nil => intro b j; rfl
        | cons y a iha =>
          intro b j
          rw [List.cons_append, enK, enK, iha b (j + 1), List.cons_append, List.length_cons, show j + 1 + a.length = j + (a.length + 1) from by omega]
      have hn : (enK 0 l).any (fun kv => decide (kv.1 = (.inl (l.length : Int) : L2.Key))) = false := by
        rw [Bool.eq_false_iff]
        intro z
        obtain ⟨kv, hm, hk⟩ := List.any_eq_true.mp z
        obtain ⟨i, hi, e⟩ := List.mem_iff_getElem.mp hm
        have z2 := enK_at l 0 i
        rw [List.getElem?_eq_getElem hi, e] at z2
        rw [enK_len] at hi
        rw [List.getElem?_eq_getElem hi] at z2
        have := Option.some.inj z2
        rw [this] at hk
        have := Sum.inl.inj (of_decide_eq_true hk)
        omega
      have hp : putK (enK 0 l) (.inl (l.length : Int)) x = enK 0 (l ++ [x]) := by
        rw [putK, if_neg (by rw [hn]; decide), app, Nat.zero_add]
        rfl
      have z := ih (l ++ [x])
      rw [List.length_append, List.append_assoc] at z
      rw [enK]
      show mergeK (putK (enK 0 l) (.inl (l.length : Int)) x) (enK (l.length + 1) r) = _
      rw [hp]
      exact z
  exact key xs []
section
variable {X : Cx} {e : Expr} {p p2 pos pos2 : Pos} {ta : TA}
/-- dict(enumerate(t)) of a tuple -/
def tDictEnum (K : PySem.W.Frag) (ta : TA) : TE := fun σ H Q => ta σ H fun vs H1 => ∃ a xs, vs = [V.ref a] ∧ SqT K H1 a xs ∧ ∀ q, H1 q = none → Q (.ref q) (upd H1 q (.dK (enK 0 xs)))
theorem pe_dictEnumT (hc : X.calm = true) (hg : Gl X "dict") (hm : X.mg "dict" = none) (hg2 : Gl X "enumerate") (hm2 : X.mg "enumerate" = none) (ha : PA X [e] ta) (hs : starEach [e] X.env = [(false, eval e X.env)] := by rfl)
    (hse : starEach [Expr.Call (.Name "enumerate" p2) [e] [] pos2] X.env = [(false, eval (Expr.Call (.Name "enumerate" p2) [e] [] pos2) X.env)] := by rfl) :
    PE X (.Call (.Name "dict" p) [.Call (.Name "enumerate" p2) [e] [] pos2] [] pos) (tDictEnum X.K ta) := by
  refine ⟨fun pins s σ H Q I h => ?_⟩
  refine wpAny_Call_Name_kw (ld_blt I hg hm (u := .type "dict") (by first | rfl | decide +kernel) ?_ (by first | decide +kernel | decide) (by first | decide +kernel | decide))
  rw [hse]
  refine PySem.callWith_type1 (Call_ (ld_blt I hg2 hm2 boot_enumerate (PyProof.Rows.callWith_type1 (thn (ha.run pos2 pins s σ H _ I h) fun us s1 ⟨vs, H1, I1, r1, q1⟩ => ?_) hs rfl)))
  obtain ⟨a, xs, rfl, hq, q⟩ := q1
  cases r1 with
  | cons r rr =>
    cases rr
    cases r
    obtain ⟨its, rv, p', hz⟩ := I1.tuple hq
    have ha1 : a < s1.heap.objs.size := by obtain ⟨o, e, _⟩ := p'; exact Heap.lt_size e
    refine call_enumT p' fun h' he hit hk => ?_
    have hlen := rv.length
    have isz : its.toArray.size = its.length := List.size_toArray
    refine PySem.call_dict_pairs (knd := mixKind X.prog X.w) (kvs := enK 0 its) (pairArg_enumT (s1.heap.objs.size + 1) s1.heap.objs.size a (Nat.succ_ne_self _) (Nat.ne_of_lt (Nat.lt_succ_of_lt ha1)) (Nat.ne_of_lt ha1) its.toArray) (I1.ok.hd hc) ⟨⟨.none, he⟩, hit, p'.keeps fun b o z => hk b o z⟩ ⟨by rw [enK_len, isz], fun i key v ⟨⟨t, ek⟩, hv⟩ => ?_⟩ (by rw [isz, ← hlen]; exact hz) fun h2 tk hd hk2 => ?_
    · subst ek
      refine ⟨.inl (i : Int), ?_, mixKind_int _ _ _ _⟩
      rw [enK_at, Nat.zero_add]
      have : its[i]? = some v := by simpa using hv
      rw [this]
      rfl
    · have kk : ∀ b o, s1.heap.get? b = some o → h2.get? b = some o := fun b o z => hk2 b o (fun hb => by
        have lt := Heap.lt_size z
        rcases List.mem_cons.mp hb with y | y
        · exact absurd y (Nat.ne_of_lt (Nat.lt_succ_of_lt lt))
        · exact absurd (List.mem_singleton.mp y) (Nat.ne_of_lt lt)) (hk b o z)
      have lsz : s1.heap.objs.size ≤ h'.objs.size := by
        have lt := Heap.lt_size he
        exact Nat.le_of_lt (Nat.lt_of_succ_lt lt)
      have hms : (h'.objs.size == sysModules) = false := beq_eq_false_iff_ne.mpr (Nat.ne_of_gt (Nat.lt_of_lt_of_le I1.big lsz))
      refine ⟨.ref h'.objs.size, upd H1 h'.objs.size (.dK (enK 0 xs)), I1.laid (t' := tk) kk lsz (show ObjOk X.prog X.w _ _ _ (.dK (enK 0 xs)) from ⟨by rw [enK_len]; exact hz, hms, merged [] (enK 0 its), ?_, hd⟩), rfl, q _ (I1.hok.fresh lsz)⟩
      have := KV.merge (enK_kv 0 rv) .nil
      rwa [enK_merge] at this
end
end AK
set_option Elab.async false
set_option linter.all false
set_option maxRecDepth 100000
set_option maxHeartbeats 4000000
namespace AK
open PySem PySem.Spec PyProof.Rows L2
/-! ### tuple(d.values()), list(d.values()) -/
section
variable {prog : Program} {w : World} {A : Around} {E : Value → Shared → Prop} {s : Shared} {T : String} {r d : Addr} {n : Nat} {P : Nat → Value → Prop} {OK : Heap → Prop}
theorem collect_src {Q : List Value → Shared → Prop} (K : PySem.W.KdlSrc prog w T r d n P OK) (hh : A.handled = none) (hok : OK s.heap) (hn : n ≤ sizeLine)
    (hQ : ∀ (h' : Heap) (tk : Nat) (acc : Array Value), (∀ b o, s.heap.get? b = some o → h'.get? b = some o) → ItemsOf P acc n → s.heap.objs.size < h'.objs.size → Q acc.toList { s with heap := h', toks := tk }) :
    wpAny (model prog w) A (collect (.ref r)) Q E s := by
  have hlt := K.there _ hok
  unfold collect
  refine wpAny_bind (wpAny_runValue (codeAny_builtin PySem.F.entry_proto_collect ?_))
  rw [Around.under_plainId PySem.F.plain_proto_collect _]
  show wpAny _ A.in1 (newList [] >>= fun l' => again (.builtin "list.__iadd__" ⟨[l', .ref r], []⟩)) _ _ s
  refine wpAny_bind (wpAny_newObj_type ?_)
  refine wpAny_pure ⟨plainId_quiet PySem.F.plain_list_iadd _, codeAny_builtin PySem.F.entry_list_iadd ?_⟩
  rw [Around.under_plainId PySem.F.plain_list_iadd _]
  have hS₁ : (s.heap.push { cls := .type "list", data := .seq ([] : List Value).toArray }).get? s.heap.objs.size = some { cls := .type "list", data := .seq ([] : List Value).toArray } := Heap.get?_push_size _ rfl
  show wpAny _ A.in1 (Builtin.List.listExtendWith (.ref s.heap.objs.size) (.ref r) (.ref s.heap.objs.size)) _ _ _
  refine PySem.W.kdl_extend (A := A) (R := fun r s' => match r with
    | .ok (.ret v) => wpAny (model prog w) A (match v with
      | .ref a => (do
        let o ← load a
        match o.data with
        | .seq xs _ => pure xs.toList
        | _ => unsupported "internal:collect")
      | _ => unsupported "internal:collect") Q E s'
    | .ok _ => False
    | .error e => E e s') (s := { s with heap := s.heap.push { cls := .type "list", data := .seq ([] : List Value).toArray } }) K hh (K.keep _ _ hok fun b _ o e => Heap.get?_push_of_some _ e) s.heap.objs.size (Nat.ne_of_gt hlt.1) (Nat.ne_of_gt hlt.2) (.ref s.heap.objs.size) 0 hS₁ (fun h' tk acc' c' hk hS' hacc => ?_) hn
  show wpAny _ A (load s.heap.objs.size >>= _) _ _ _
  refine wpAny_bind (wpAny_load hS' ?_)
  refine wpAny_pure ?_
  exact hQ h' tk acc' (fun b o e => hk b o (Nat.ne_of_lt (Heap.lt_size e)) (Heap.get?_push_of_some _ e)) hacc (Heap.lt_size hS')
theorem code_tuple_new_src {Q₁ : Value → Shared → Prop} (K : PySem.W.KdlSrc prog w T r d n P OK) (hT : T = "dict_values") (hh : A.handled = none) (hok : OK s.heap) (hn : n ≤ sizeLine)
    (h : ∀ (h' : Heap) (tk : Nat) (acc : Array Value), (∀ b o, s.heap.get? b = some o → h'.get? b = some o) → ItemsOf P acc n → Q₁ (.ref h'.objs.size) { s with heap := h'.push { cls := .type "tuple", data := .seq acc }, toks := tk }) :
    codeAny (model prog w) A (.call (.builtin "tuple.__new__") ⟨[.type "tuple", .ref r], []⟩) (wants Q₁ E) s := by
  refine codeAny_of_tree ?_
  show wpAny _ A.in1 (do checkBuiltinCall "tuple.__new__" ⟨[.type "tuple", .ref r], []⟩; again (.builtin "tuple.__new__" ⟨[.type "tuple", .ref r], []⟩)) _ _ s
  refine wpAny_bind (wpAny_of_eq (PySem.F.newCall_tuple_1 _) (wpAny_pure ⟨plainId_quiet PySem.F.plain_tuple_new _, codeAny_builtin PySem.F.entry_tuple_new ?_⟩))
  rw [Around.under_plainId PySem.F.plain_tuple_new _]
  have hsub := sub_tuple_self
  have hinit := init_tuple_lookup
  have hmh := madeHere_tuple
  have hTI : s.TypeIs (.ref r) "dict_values" := hT ▸ K.type s hok
  have hh1 : A.in1.handled = none := hh
  wp_walk using wpAny_typeOf hTI, collect_src (A := A.in1) K hh1 hok hn
  intro h' tk acc hk hacc _
  show wpAny _ _ (Builtin.Tuple.tupleExact acc.toList.toArray >>= fun v => ret v) _ _ _
  unfold Builtin.Tuple.tupleExact
  refine wpAny_bind (wpAny_newObj_type ?_ (by show acc.toList.toArray.size ≤ sizeLine; simp only [Array.toArray_toList]; rw [hacc.1]; exact hn))
  refine wpAny_pure ?_
  have e : acc.toList.toArray = acc := by simp
  rw [e]
  exact h h' tk acc hk hacc
theorem call_tuple_src {Q : Value → Shared → Prop} (K : PySem.W.KdlSrc prog w T r d n P OK) (hT : T = "dict_values") (hh : A.handled = none) (hok : OK s.heap) (hn : n ≤ sizeLine)
    (hQ : ∀ (h' : Heap) (tk : Nat) (acc : Array Value), (∀ b o, s.heap.get? b = some o → h'.get? b = some o) → ItemsOf P acc n → Q (.ref h'.objs.size) { s with heap := h'.push { cls := .type "tuple", data := .seq acc }, toks := tk }) :
    wpAny (model prog w) A (call (.type "tuple") [.ref r]) Q E s := by
  refine callType_codes (Q₁ := fun obj s₁ => s₁.TypeIs obj "tuple" ∧ Q obj s₁) PySem.F.called_tuple (PySem.F.typeCall_tuple_1 _) PySem.F.entry_object_init
    (code_tuple_new_src (A := A.in1) K hT hh hok hn fun h' tk acc hk hacc => ⟨⟨_, Heap.get?_push_size _ rfl, rfl⟩, hQ h' tk acc hk hacc⟩) fun obj s₁ h₁ => ?_
  exact ⟨h₁.1, PySem.F.args_object_init_2 obj _, PySem.object_init_meets PySem.F.called_tuple.init.lookup PySem.F.called_tuple.made (by decide) prog w A.in1 _ s₁ ⟨h₁.1, rfl, h₁.2⟩⟩
end
section
variable {X : Cx} {o : Expr} {p pos apos mpos : Pos} {td : TE}
def tTupVals (td : TE) : TE := fun σ H Q => td σ H fun x H1 => ∃ a kvs, x = V.ref a ∧ H1 a = some (.dK kvs) ∧ ∀ q, H1 q = none → Q (.ref q) (upd H1 q (.tup (kvs.map (·.2))))
def tLstVals (td : TE) : TE := fun σ H Q => td σ H fun x H1 => ∃ a kvs, x = V.ref a ∧ H1 a = some (.dK kvs) ∧ ∀ q, H1 q = none → Q (.ref q) (upd H1 q (.lst (kvs.map (·.2))))
theorem vals_of_kv {kvs : List (L2.Key × V)} {vs : List (L2.Key × Value)} (rel : KV kvs vs) {acc : Array Value} (h : ItemsOf (fun i v => ∃ k, vs[i]? = some (k, v)) acc vs.length) : Vals (kvs.map (·.2)) acc.toList := by
  have hl : kvs.length = vs.length := KV.length rel
  have el : acc.toList.length = acc.size := by simp
  refine vals_of_at (by rw [List.length_map, el, h.1, hl]) fun j x w h1 h2 => ?_
  obtain ⟨k, hk⟩ := h.2 j w (by rw [← Array.getElem?_toList]; exact h2)
  obtain ⟨y, hy, ry⟩ := KV.at' rel hk
  rw [List.getElem?_map, hy] at h1
  cases h1
  exact ry
theorem pe_tupVals (hc : X.calm = true) (hg : Gl X "tuple") (hm : X.mg "tuple" = none) (hd : PE X o td) (hbase : attributeBase o "values" X.env (eval o X.env) = eval o X.env := by rfl) (hline : (apos.endLine == mpos.line) = true := by rfl)
    (hse : starEach [Expr.Call (.Attribute o "values" apos) [] [] mpos] X.env = [(false, eval (Expr.Call (.Attribute o "values" apos) [] [] mpos) X.env)] := by rfl) :
    PE X (.Call (.Name "tuple" p) [.Call (.Attribute o "values" apos) [] [] mpos] [] pos) (tTupVals td) := by
  refine ⟨fun pins s σ H Q I h => ?_⟩
  refine wpAny_Call_Name_kw (ld_blt I hg hm (u := .type "tuple") (by first | rfl | decide +kernel) ?_ (by first | decide +kernel | decide) (by first | decide +kernel | decide))
  rw [hse]
  refine PySem.callWith_type1 (wpAny_Call_method0_late hbase hline (thn (hd.run pins s σ H _ I h) fun v s1 ⟨x, H1, I1, r1, a, kvs, ex, ha, q⟩ => ?_))
  subst ex
  obtain rfl : v = Value.ref a := r1
  obtain ⟨hz, hsys, vs, rel, dof⟩ := dk_of I1.hok ha
  obtain ⟨ep, dat⟩ := dof.dictAt
  have dat' := dat
  obtain ⟨ob, es, ho, ex, hdat, hko, hpr, hnd⟩ := dat'
  refine ⟨"dict", "dict.values", PySem.F.plainAttrs_dict, PySem.F.slot_dict_values, PySem.F.type_dict_values, ⟨ob, ho, ex.1⟩, fun b e => ?_, Calls.callWith_builtin rfl (PySem.evalArgs_none ?_)⟩
  · cases e
    exact ⟨ob, ho, ex.2.1⟩
  refine call_meetsIn PySem.F.slot_dict_values ⟨ob, ho, ex.1⟩ PySem.F.entry_dict_values (PySem.F.args_dict_values_1 _) (meets_dict_values (mixKind X.prog X.w) a hsys) ⟨⟨vs, dof⟩, ?_⟩
  have k1 : ∀ b u, s1.heap.get? b = some u → (s1.heap.push { cls := .type "dict_values", data := .fields #[.ref a] }).get? b = some u := fun b u e => Heap.get?_push_of_some _ e
  have dat1 : (s1.heap.push { cls := .type "dict_values", data := .fields #[.ref a] }).DictAt (mixKind X.prog X.w) a vs ep := dat.keep k1
  have hl : kvs.length = vs.length := KV.length rel
  refine call_tuple_src (PySem.W.kdl_values (r := s1.heap.objs.size) (knd := mixKind X.prog X.w) (kvs := vs) (ep := ep)) rfl (I.ok.hd hc) ⟨⟨_, Heap.get?_push_size _ rfl, rfl, rfl⟩, dat1⟩ (by rw [← hl]; exact hz) fun h' tk acc hk hacc => ?_
  have le : s1.heap.objs.size ≤ h'.objs.size := Nat.le_of_lt (Heap.lt_size (hk _ _ (Heap.get?_push_size _ rfl)))
  have rv := vals_of_kv rel hacc
  refine ⟨.ref h'.objs.size, upd H1 h'.objs.size (.tup (kvs.map (·.2))), I1.laid (t' := tk) (fun b u e => Heap.get?_push_of_some _ (hk b u (k1 b u e))) le (show ObjOk X.prog X.w _ _ _ (.tup (kvs.map (·.2))) from ⟨by rw [List.length_map]; exact hz, acc.toList, rv, ?_⟩), rfl, q _ (I1.hok.fresh le)⟩
  have z := IsTup.new h' acc
  simpa using z
theorem pe_lstVals (hc : X.calm = true) (hg : Gl X "list") (hm : X.mg "list" = none) (hd : PE X o td) (hbase : attributeBase o "values" X.env (eval o X.env) = eval o X.env := by rfl) (hline : (apos.endLine == mpos.line) = true := by rfl)
    (hse : starEach [Expr.Call (.Attribute o "values" apos) [] [] mpos] X.env = [(false, eval (Expr.Call (.Attribute o "values" apos) [] [] mpos) X.env)] := by rfl) :
    PE X (.Call (.Name "list" p) [.Call (.Attribute o "values" apos) [] [] mpos] [] pos) (tLstVals td) := by
  refine ⟨fun pins s σ H Q I h => ?_⟩
  refine wpAny_Call_Name_kw (ld_blt I hg hm (u := .type "list") (by first | rfl | decide +kernel) ?_ (by first | decide +kernel | decide) (by first | decide +kernel | decide))
  rw [hse]
  refine PySem.callWith_type1 (wpAny_Call_method0_late hbase hline (thn (hd.run pins s σ H _ I h) fun v s1 ⟨x, H1, I1, r1, a, kvs, ex, ha, q⟩ => ?_))
  subst ex
  obtain rfl : v = Value.ref a := r1
  obtain ⟨hz, hsys, vs, rel, dof⟩ := dk_of I1.hok ha
  obtain ⟨ep, dat⟩ := dof.dictAt
  have dat' := dat
  obtain ⟨ob, es, ho, ex, hdat, hko, hpr, hnd⟩ := dat'
  refine ⟨"dict", "dict.values", PySem.F.plainAttrs_dict, PySem.F.slot_dict_values, PySem.F.type_dict_values, ⟨ob, ho, ex.1⟩, fun b e => ?_, Calls.callWith_builtin rfl (PySem.evalArgs_none ?_)⟩
  · cases e
    exact ⟨ob, ho, ex.2.1⟩
  refine call_meetsIn PySem.F.slot_dict_values ⟨ob, ho, ex.1⟩ PySem.F.entry_dict_values (PySem.F.args_dict_values_1 _) (meets_dict_values (mixKind X.prog X.w) a hsys) ⟨⟨vs, dof⟩, ?_⟩
  have k1 : ∀ b u, s1.heap.get? b = some u → (s1.heap.push { cls := .type "dict_values", data := .fields #[.ref a] }).get? b = some u := fun b u e => Heap.get?_push_of_some _ e
  have dat1 : (s1.heap.push { cls := .type "dict_values", data := .fields #[.ref a] }).DictAt (mixKind X.prog X.w) a vs ep := dat.keep k1
  have hl : kvs.length = vs.length := KV.length rel
  refine PySem.W.kdl_call (PySem.W.kdl_values (r := s1.heap.objs.size) (knd := mixKind X.prog X.w) (kvs := vs) (ep := ep)) (I.ok.hd hc) ⟨⟨_, Heap.get?_push_size _ rfl, rfl, rfl⟩, dat1⟩ (by rw [← hl]; exact hz) fun h' tk acc' c' hkeep hS hacc => ?_
  have hsz : (s1.heap.push { cls := .type "dict_values", data := .fields #[.ref a] }).objs.size = s1.heap.objs.size + 1 := Heap.size_push _ _
  have le : s1.heap.objs.size ≤ (s1.heap.push { cls := .type "dict_values", data := .fields #[.ref a] }).objs.size := by rw [hsz]; exact Nat.le_succ _
  have rv := vals_of_kv rel hacc
  refine ⟨.ref _, upd H1 _ (.lst (kvs.map (·.2))), I1.laid (t' := tk) (fun b u e => hkeep b u (k1 b u e)) le (show ObjOk X.prog X.w _ _ _ (.lst (kvs.map (·.2))) from ⟨by rw [List.length_map]; exact hz, acc'.toList, c', rv, by rw [Array.toArray_toList]; exact hS⟩), rfl, q _ (I1.hok.fresh le)⟩
end
end AK
set_option Elab.async false
set_option linter.all false
set_option maxRecDepth 100000
set_option maxHeartbeats 4000000
namespace AK
open PySem PySem.Spec PyProof.Rows L2
/-! ### sorted(d), the keys whole numbers -/
def rSortedK : List V → Hp → VK → Prop := fun vs H Q => ∃ (a : Addr) (kvs : List (L2.Key × V)) (ns : List Int), vs = [V.ref a] ∧ H a = some (.dK kvs) ∧ kvs.map (·.1) = ns.map Sum.inl ∧ ns.length < 64 ∧
  ∀ (ns' : List Int) (p : Addr), ns'.Perm ns → ns'.Pairwise (· ≤ ·) → H p = none → Q (.ref p) (upd H p (.lst (ns'.map V.int)))
theorem ints_of_at : ∀ {ns : List Int} {us : List Value}, us.length = ns.length → (∀ (j : Nat) (i : Int) (u : Value), ns[j]? = some i → us[j]? = some u → ∃ t, u = .int i t) → IntsAre us ns
  | [], [], _, _ => .nil
  | n :: ns, u :: us, hl, h => by
    obtain ⟨t, e⟩ := h 0 n u rfl rfl
    subst e
    exact .cons _ _ (ints_of_at (by simpa using hl) fun j i v h1 h2 => h (j + 1) i v h1 h2)
theorem cr_sortedK {X : Cx} (hc : X.calm = true) : CallR X (.builtin "sorted") rSortedK := by
  intro pins s σ H vs us Q I r h
  obtain ⟨a, kvs, ns, rfl, ha, hk, h64, q⟩ := h
  rw [Vals.ref1 r]
  obtain ⟨hz, hsys, vs, rel, dof⟩ := dk_of I.hok ha
  obtain ⟨ep, dat⟩ := dof.dictAt
  have hl : kvs.length = vs.length := KV.length rel
  have hln : kvs.length = ns.length := by
    have := congrArg List.length hk
    rwa [List.length_map, List.length_map] at this
  refine Calls.call_function_entry kind_sorted plain_sorted entry_sorted (args_sorted1 _) ?_
  unfold Builtin.«sorted»
  refine wpAny_bind (m := checkCount "sorted" 1 1 _) (wpAny_pure ?_)
  refine wpAny_bind (collect_src (A := X.A.in1) (PySem.W.kdl_dict (knd := mixKind X.prog X.w) (kvs := vs) (ep := ep) hsys) (show X.A.in1.handled = none from I.ok.hd hc) dat (by rw [← hl]; exact hz) fun h' tk acc hkeep hacc hlt => ?_)
  have la : acc.toList.length = vs.length := by rw [Array.length_toList]; exact hacc.1
  have hi : IntsAre acc.toList ns := by
    refine ints_of_at (by rw [la, ← hl, hln]) fun j i u h1 h2 => ?_
    obtain ⟨k, x, hx, hk2⟩ := hacc.2 j u (by rw [← Array.getElem?_toList]; exact h2)
    obtain ⟨y, hy, _⟩ := KV.at' rel hx
    have h3 : (kvs.map (·.1))[j]? = some k := by rw [List.getElem?_map, hy]; rfl
    rw [hk, List.getElem?_map, h1] at h3
    have h3 : (Sum.inl i : L2.Key) = k := Option.some.inj h3
    subst h3
    rw [mixKind_is] at hk2
    rcases keyIs_shape hk2 with ⟨i', t, e1, e2⟩ | ⟨x', t, e1, e2⟩
    · cases e1
      exact ⟨t, e2⟩
    · cases e1
  refine wpAny_bind (wpAny_newList ?_ (by rw [la, ← hl]; exact hz))
  have hob : (h'.push { cls := .type "list", data := .seq acc.toList.toArray }).get? h'.objs.size = some (PyProof.Rows.seqObj "list" acc.toList.toArray 0) := Heap.get?_push_size _ rfl
  refine wpAny_bind (wpAny_holding (wpAny_call_entry PyProof.Rows.slot_list_sort ⟨_, hob, rfl⟩ PyProof.Rows.entry_list_sort
    (PyProof.Rows.list_sort_tree hob hi (by rw [la, ← hl, hln]; exact h64) fun out ns' h1 h2 h3 => ⟨.none, rfl, ?_⟩) (PyProof.Rows.args_list_sort _)))
  obtain ⟨ep', he'⟩ := PyProof.Rows.sortedHeap_at (vs := acc.toList) (out := out) hob
  have lsz : s.heap.objs.size ≤ h'.objs.size := Nat.le_of_lt hlt
  have hlen : (ns'.map V.int).length ≤ sizeLine := by rw [List.length_map, h2.length_eq]; exact small64 h64
  have kk : ∀ b o, s.heap.get? b = some o → (PyProof.Rows.sortedHeap (h'.push { cls := .type "list", data := .seq acc.toList.toArray }) h'.objs.size acc.toList out).get? b = some o := fun b o e => by
    have e1 := hkeep b o e
    have lt := Heap.lt_size e1
    have e2 : (h'.push { cls := .type "list", data := .seq acc.toList.toArray }).get? b = some o := Heap.get?_push_of_some _ e1
    rw [PyProof.Rows.sortedHeap_old (Nat.ne_of_lt lt) (Heap.lt_size e2)]
    exact e2
  exact wpAny_pure ⟨_, rfl, .ref h'.objs.size, upd H h'.objs.size (.lst (ns'.map V.int)), I.laid (t' := tk) kk lsz (show ObjOk X.prog X.w _ _ _ (.lst (ns'.map V.int)) from ⟨hlen, out.toList, ep', vals_of_ints h1, he'⟩), rfl, q ns' _ h2 h3 (I.hok.fresh lsz)⟩
end AK
set_option Elab.async false
set_option linter.all false
set_option maxRecDepth 100000
set_option maxHeartbeats 4000000
namespace AK
open PySem PySem.Spec PyProof.Rows L2
def AV : List Nat := lt ("abcdefghijklmnopqrstuvwxyz" : Str)
def AN : List Nat := lt ("ABCDEFGHIJKLMNOPQRSTUVWXYZ" : Str)
def isMsg (n : Int) (x : Str) : Bool := !decide (x = ("" : Str)) && asc (AV.take n.toNat) (lt x)
def isLnk (n : Int) : List Nat → Bool
  | [c, d] => !decide (c = d) && (decide (c ∈ AN.take n.toNat) && decide (d ∈ AN.take n.toNat))
  | _ => false
section
variable {P : Program} {w : World} {K : PySem.W.Frag} {mg : Str → Option Value} {base : Heap} {a : Ads}
def spFirst : Sp := fun vs H Q _ => ∃ (z : Str) (n : Int), vs = [.str z, .int n] ∧ z.length ≤ 1000 ∧ Q (.str (tx ((lt z).take n.toNat))) H
theorem ok_first_letters (T : Txt K mg a) : FnOk P w K mg base CX0 1 a.a_first_letters a.d_first_letters ["letters", "count"] spFirst := by
  refine T.F_first_letters.ok sc_first_letters (fun vs H Q E h => ?_) (fun cdv A outer s H vs Q E hr h => ?_)
  · obtain ⟨z, n, rfl, _⟩ := h
    rfl
  · obtain ⟨z, n, rfl, hz, q⟩ := h
    refine ⟨_, (pss_one (ps_ret (pe_slice sl_str (pv 0) po_none (po_some (pe_callB (call_max2 rfl) (by rfl) T.z_max (by decide +kernel) (pa_cons pe_int (pa_cons (pv 1) pa_nil))))))), ?_⟩
    have e : (if n > 0 then n else 0) = ((n.toNat : Nat) : Int) := by split <;> omega
    simp only [tSeq, tAsg, tRet, tRetN, tDrop, tIfS, tNext, tNever, tOp, tUn, tVar, tC, rI0, rI, rU, tTest, tIf, tB, tAnd, tOr, tNot, tAndV, tOrV, tNotV, gName, gSub, gTupH, gCons, gNil, tYes, tCons, tNil, tLst, tTup, tCB, tCall, tMeth, tMake, tFld, sFld, tFor_c, tLc_c, iRng1, iList, iTup, iStr, iSeqB, iEnumB, tM1, tSl, tPart, tNoPart, rSlS, rIxS, tBM, rAppend, tIf, rEq, rNe, scal, hIx, hIxT, hIxB, hSet, hInt, hIntB, hLen, hLenT, hLenB, L2.start, wipe, List.map_cons, List.map_nil, List.set_cons_zero, List.set_cons_succ, List.set_nil, List.length_cons, List.length_nil, List.length_map, List.cons_append, List.nil_append, List.append_nil, List.replicate, List.getElem?_cons_zero, List.getElem?_cons_succ, Option.some.injEq, V.int.injEq, V.bl.injEq, V.ref.injEq, V.str.injEq, List.cons.injEq, exists_eq_left', exists_eq_left, exists_and_left, and_assoc, upd_same, upd_upd, HO.lst.injEq, HO.tup.injEq, atI_0, atI_1, atI_2, atI_3, set_1, set_2, set_3, CDiv, CPow, CMul, List.length_set, Int.reduceToNat, Int.reduceLE, Int.reduceLT, Int.reducePow, Int.reduceNeg, Nat.reduceAdd, Nat.reduceLT, Nat.reduceLeDiff, Nat.reducePow, Nat.zero_add, or_true, true_or, gt_iff_lt, ge_iff_le, and_true, true_and, decide_eq_true_eq, if_true, Bool.false_eq_true, if_false]
    refine ⟨sizeLe hz, ?_⟩
    rw [e, cut_take]
    exact q
def spAsc : Sp := fun vs H Q _ => ∃ (z x : Str), vs = [.str z, .str x] ∧ z.length ≤ 1000 ∧ ∀ H', Same H H' → Q (.bl (asc (lt z) (lt x))) H'
theorem ok_is_ascending (T : Txt K mg a) : FnOk P w K mg base CX0 1 a.a_is_ascending a.d_is_ascending ["letters", "text"] spAsc := by
  refine T.F_is_ascending.ok sc_is_ascending (fun vs H Q E h => ?_) (fun cdv A outer s H vs Q E hr h => ?_)
  · obtain ⟨z, n, rfl, _⟩ := h
    rfl
  · obtain ⟨z, x, rfl, hz, q⟩ := h
    refine ⟨_, (pss_cons (ps_set (i := 2) sc_is_ascending.nd rfl (.inl rfl) (pv 0))
      (pss_cons (ps_for PassesOwn.never rfl (pi_str (pv 1)) (pg_name (i := 3) sc_is_ascending.nd rfl (.inl rfl))
      (pss_cons (ps_if (pt_cmpR op_notIn_sign (pv 3) (pv 2) rfl)
      (pss_one (ps_ret pe_bl))
      pss_nil)
      (pss_one (ps_set (i := 2) sc_is_ascending.nd rfl (.inl rfl) (pe_ix ixHT (pe_partition (pv 2) (pv 3)) pe_int (fun _ _ => rfl))))))
      (pss_one (ps_ret pe_bl)))), ?_⟩
    simp only [tSeq, tAsg, tRet, tRetN, tDrop, tIfS, tNext, tNever, tOp, tUn, tVar, tC, rI0, rI, rU, tTest, tIf, tB, tAnd, tOr, tNot, tAndV, tOrV, tNotV, gName, gSub, gTupH, gCons, gNil, tYes, tCons, tNil, tLst, tTup, tCB, tCall, tMeth, tMake, tFld, sFld, tFor_c, tLc_c, iRng1, iList, iTup, iStr, iSeqB, iEnumB, tM1, tSl, tPart, tNoPart, rSlS, rIxS, tBM, rAppend, tIf, rEq, rNe, scal, hIx, hIxT, hIxB, hSet, hInt, hIntB, hLen, hLenT, hLenB, L2.start, wipe, List.map_cons, List.map_nil, List.set_cons_zero, List.set_cons_succ, List.set_nil, List.length_cons, List.length_nil, List.length_map, List.cons_append, List.nil_append, List.append_nil, List.replicate, List.getElem?_cons_zero, List.getElem?_cons_succ, Option.some.injEq, V.int.injEq, V.bl.injEq, V.ref.injEq, V.str.injEq, List.cons.injEq, exists_eq_left', exists_eq_left, exists_and_left, and_assoc, upd_same, upd_upd, HO.lst.injEq, HO.tup.injEq, atI_0, atI_1, atI_2, atI_3, set_1, set_2, set_3, CDiv, CPow, CMul, List.length_set, Int.reduceToNat, Int.reduceLE, Int.reduceLT, Int.reducePow, Int.reduceNeg, Nat.reduceAdd, Nat.reduceLT, Nat.reduceLeDiff, Nat.reducePow, Nat.zero_add, or_true, true_or, gt_iff_lt, ge_iff_le, and_true, true_and, decide_eq_true_eq, if_true, Bool.false_eq_true, if_false]
    refine forStr (fun i σ H' => ∃ b v, σ = [some (.str z), some (.str x), some (.str (tx b)), v] ∧ Same H H' ∧ asc (lt z) (lt x) = asc b ((lt x).drop i) ∧ b.length ≤ 1000) ⟨lt z, none, by rw [tx_lt], Same.refl _, rfl, by rw [len_lt]; exact hz⟩ ?_ ?_
    · rintro i c σ H' hc ⟨b, v, rfl, hs, ea, hb⟩
      have ed : (lt x).drop i = c :: (lt x).drop (i + 1) := by
        obtain ⟨hi, e⟩ := List.getElem?_eq_some_iff.mp hc
        rw [← e]
        exact List.drop_eq_getElem_cons hi
      rw [ed, asc_cons] at ea
      simp only [tSeq, tAsg, tRet, tRetN, tDrop, tIfS, tNext, tNever, tOp, tUn, tVar, tC, rI0, rI, rU, tTest, tIf, tB, tAnd, tOr, tNot, tAndV, tOrV, tNotV, gName, gSub, gTupH, gCons, gNil, tYes, tCons, tNil, tLst, tTup, tCB, tCall, tMeth, tMake, tFld, sFld, tFor_c, tLc_c, iRng1, iList, iTup, iStr, iSeqB, iEnumB, tM1, tSl, tPart, tNoPart, rSlS, rIxS, tBM, rAppend, tIf, rEq, rNe, scal, hIx, hIxT, hIxB, hSet, hInt, hIntB, hLen, hLenT, hLenB, L2.start, wipe, List.map_cons, List.map_nil, List.set_cons_zero, List.set_cons_succ, List.set_nil, List.length_cons, List.length_nil, List.length_map, List.cons_append, List.nil_append, List.append_nil, List.replicate, List.getElem?_cons_zero, List.getElem?_cons_succ, Option.some.injEq, V.int.injEq, V.bl.injEq, V.ref.injEq, V.str.injEq, List.cons.injEq, exists_eq_left', exists_eq_left, exists_and_left, and_assoc, upd_same, upd_upd, HO.lst.injEq, HO.tup.injEq, atI_0, atI_1, atI_2, atI_3, set_1, set_2, set_3, CDiv, CPow, CMul, List.length_set, Int.reduceToNat, Int.reduceLE, Int.reduceLT, Int.reducePow, Int.reduceNeg, Nat.reduceAdd, Nat.reduceLT, Nat.reduceLeDiff, Nat.reducePow, Nat.zero_add, or_true, true_or, gt_iff_lt, ge_iff_le, and_true, true_and, decide_eq_true_eq, if_true, Bool.false_eq_true, if_false]
      refine ⟨c, rfl, ?_⟩
      rw [show (tx b).cps.toList = b from rfl]
      by_cases hm : c ∈ b
      · rw [decide_eq_true hm, Bool.true_and] at ea
        rw [decide_eq_true hm]
        refine iteF ⟨⟨_, rfl⟩, rfl, sizeLe hb, fun p hp => ⟨after b c, part_after hm, fun d o e => ?_, ea, Nat.le_trans (after_len b c) hb⟩⟩
        rw [upd_ne (ne_of_none (hs d o e) hp)]
        exact hs d o e
      · rw [decide_eq_false hm, Bool.false_and] at ea
        rw [decide_eq_false hm]
        refine iteT ?_
        rw [← ea]
        exact q _ hs
    · rintro σ H' ⟨b, v, rfl, hs, ea, hb⟩
      rw [List.drop_of_length_le (Nat.le_refl _), asc_nil] at ea
      have z := q _ hs
      rw [ea] at z
      exact z
def spIsMsg : Sp := fun vs H Q _ => ∃ (n : Int) (x : Str), vs = [.int n, .str x] ∧ ∀ H', Same H H' → Q (.bl (isMsg n x)) H'
theorem ok_is_message (T : Txt K mg a) : FnOk P w K mg base CX0 2 a.a_is_message a.d_is_message ["variables", "text"] spIsMsg := by
  have G_first_letters := ok_first_letters (P := P) (w := w) (base := base) T
  have G_is_ascending := ok_is_ascending (P := P) (w := w) (base := base) T
  refine T.F_is_message.ok sc_is_message (fun vs H Q E h => ?_) (fun cdv A outer s H vs Q E hr h => ?_)
  · obtain ⟨z, n, rfl, _⟩ := h
    rfl
  · obtain ⟨n, x, rfl, q⟩ := h
    refine ⟨_, (pss_one (ps_ret (pe_and (pe_cmpR op_ne (pv 1) pe_str (nomark _)) (pe_one (pe_call G_is_ascending (hr.mono (by first | decide | exact Nat.le_refl _ | omega)) (by rfl) T.g_is_ascending T.F_is_ascending.kp T.b_is_ascending .nil pass0 (pa_cons (pe_call G_first_letters (hr.mono (by first | decide | exact Nat.le_refl _ | omega)) (by rfl) T.g_first_letters T.F_first_letters.kp T.b_first_letters .nil pass0 (pa_cons (pe_glob (v := .str _) rfl T.m_VARIABLE_LETTERS ⟨_, rfl⟩) (pa_cons (pv 0) pa_nil))) (pa_cons (pv 1) pa_nil))))))), ?_⟩
    simp only [tSeq, tAsg, tRet, tRetN, tDrop, tIfS, tNext, tNever, tOp, tUn, tVar, tC, rI0, rI, rU, tTest, tIf, tB, tAnd, tOr, tNot, tAndV, tOrV, tNotV, gName, gSub, gTupH, gCons, gNil, tYes, tCons, tNil, tLst, tTup, tCB, tCall, tMeth, tMake, tFld, sFld, tFor_c, tLc_c, iRng1, iList, iTup, iStr, iSeqB, iEnumB, tM1, tSl, tPart, tNoPart, rSlS, rIxS, tBM, rAppend, tIf, rEq, rNe, scal, hIx, hIxT, hIxB, hSet, hInt, hIntB, hLen, hLenT, hLenB, L2.start, wipe, List.map_cons, List.map_nil, List.set_cons_zero, List.set_cons_succ, List.set_nil, List.length_cons, List.length_nil, List.length_map, List.cons_append, List.nil_append, List.append_nil, List.replicate, List.getElem?_cons_zero, List.getElem?_cons_succ, Option.some.injEq, V.int.injEq, V.bl.injEq, V.ref.injEq, V.str.injEq, List.cons.injEq, exists_eq_left', exists_eq_left, exists_and_left, and_assoc, upd_same, upd_upd, HO.lst.injEq, HO.tup.injEq, atI_0, atI_1, atI_2, atI_3, set_1, set_2, set_3, CDiv, CPow, CMul, List.length_set, Int.reduceToNat, Int.reduceLE, Int.reduceLT, Int.reducePow, Int.reduceNeg, Nat.reduceAdd, Nat.reduceLT, Nat.reduceLeDiff, Nat.reducePow, Nat.zero_add, or_true, true_or, gt_iff_lt, ge_iff_le, and_true, true_and, decide_eq_true_eq, if_true, Bool.false_eq_true, if_false]
    by_cases e : x = ("" : Str)
    · rw [decide_eq_true e]
      refine iteF ?_
      have z := q H (Same.refl _)
      unfold isMsg at z
      rw [decide_eq_true e] at z
      exact z
    · rw [decide_eq_false e]
      refine iteT ⟨_, n, rfl, by decide +kernel, ?_⟩
      refine ⟨_, x, rfl, ?_, fun H' hs => ?_⟩
      · rw [len_tx, List.length_take]
        exact Nat.le_trans (Nat.min_le_right _ _) (by decide +kernel)
      · have z := q H' hs
        unfold isMsg at z
        rw [decide_eq_false e] at z
        exact z
def spIsLnk : Sp := fun vs H Q _ => ∃ (n : Int) (x : Str), vs = [.int n, .str x] ∧ x.length ≤ 1000 ∧ Q (.bl (isLnk n (lt x))) H
theorem ok_is_link (T : Txt K mg a) : FnOk P w K mg base CX0 2 a.a_is_link a.d_is_link ["nodes", "text"] spIsLnk := by
  have G_first_letters := ok_first_letters (P := P) (w := w) (base := base) T
  refine T.F_is_link.ok sc_is_link (fun vs H Q E h => ?_) (fun cdv A outer s H vs Q E hr h => ?_)
  · obtain ⟨z, n, rfl, _⟩ := h
    rfl
  · obtain ⟨n, x, rfl, hx, q⟩ := h
    refine ⟨_, (pss_cons (ps_if (PW.pt (pw_or (pt_cmpR op_ne (pe_callB call_len_str (by rfl) T.z_len PySem.boot_len (pa_cons (pv 1) pa_nil)) pe_int (nomark _)) (pw_or1 (pt_cmpR op_eq (pe_ix ix_str (pv 1) pe_int (fun _ _ => rfl)) (pe_ix ix_str (pv 1) pe_int (fun _ _ => rfl)) (nomark _)))))
      (pss_one (ps_ret pe_bl))
      pss_nil)
      (pss_cons (ps_set (i := 2) sc_is_link.nd rfl (.inl rfl) (pe_call G_first_letters (hr.mono (by first | decide | exact Nat.le_refl _ | omega)) (by rfl) T.g_first_letters T.F_first_letters.kp T.b_first_letters .nil pass0 (pa_cons (pe_glob (v := .str _) rfl T.m_NODE_LETTERS ⟨_, rfl⟩) (pa_cons (pv 0) pa_nil))))
      (pss_one (ps_ret (pe_and (pe_cmpR op_in_sign (pe_ix ix_str (pv 1) pe_int (fun _ _ => rfl)) (pv 2) rfl) (pe_one (pe_cmpR op_in_sign (pe_ix ix_str (pv 1) pe_int (fun _ _ => rfl)) (pv 2) rfl))))))), ?_⟩
    obtain ⟨l, rfl⟩ : ∃ l, x = tx l := ⟨lt x, (tx_lt x).symm⟩
    rw [len_tx] at hx
    rw [lt_tx] at q
    simp only [tSeq, tAsg, tRet, tRetN, tDrop, tIfS, tNext, tNever, tOp, tUn, tVar, tC, rI0, rI, rU, tTest, tIf, tB, tAnd, tOr, tNot, tAndV, tOrV, tNotV, gName, gSub, gTupH, gCons, gNil, tYes, tCons, tNil, tLst, tTup, tCB, tCall, tMeth, tMake, tFld, sFld, tFor_c, tLc_c, iRng1, iList, iTup, iStr, iSeqB, iEnumB, tM1, tSl, tPart, tNoPart, rSlS, rIxS, tBM, rAppend, tIf, rEq, rNe, scal, hIx, hIxT, hIxB, hSet, hInt, hIntB, hLen, hLenT, hLenB, L2.start, wipe, List.map_cons, List.map_nil, List.set_cons_zero, List.set_cons_succ, List.set_nil, List.length_cons, List.length_nil, List.length_map, List.cons_append, List.nil_append, List.append_nil, List.replicate, List.getElem?_cons_zero, List.getElem?_cons_succ, Option.some.injEq, V.int.injEq, V.bl.injEq, V.ref.injEq, V.str.injEq, List.cons.injEq, exists_eq_left', exists_eq_left, exists_and_left, and_assoc, upd_same, upd_upd, HO.lst.injEq, HO.tup.injEq, atI_0, atI_1, atI_2, atI_3, set_1, set_2, set_3, CDiv, CPow, CMul, List.length_set, Int.reduceToNat, Int.reduceLE, Int.reduceLT, Int.reducePow, Int.reduceNeg, Nat.reduceAdd, Nat.reduceLT, Nat.reduceLeDiff, Nat.reducePow, Nat.zero_add, or_true, true_or, gt_iff_lt, ge_iff_le, and_true, true_and, decide_eq_true_eq, if_true, Bool.false_eq_true, if_false]
    have hz := sizeLe hx
    match l, hx, q, hz with
    | [], _, q, hz => simp [isLnk, tx, Str.length] at q ⊢; first | exact q | exact ⟨hz, q⟩
    | [c], _, q, hz => simp [isLnk, tx, Str.length] at q ⊢; first | exact q | exact ⟨hz, q⟩
    | [c, d], _, q, hz =>
      simp only [isLnk] at q
      simp [tx, Str.length, atI_0, atI_1]
      refine ⟨hz, ite2 (fun e => ?_) (fun e => ?_)⟩
      · rw [decide_eq_true e] at q
        exact q
      · rw [decide_eq_false e] at q
        refine ⟨_, n, rfl, by decide +kernel, hz, _, rfl, ?_⟩
        have em : ∀ y, (y ∈ (tx (AN.take n.toNat)).cps) = (y ∈ AN.take n.toNat) := fun y => by
          rw [← Array.mem_toList_iff]
          rfl
        refine ite2 (fun e1 => ⟨hz, _, rfl, ?_⟩) (fun e1 => ?_)
        · have e2 : c ∈ AN.take n.toNat := (em c) ▸ e1
          rw [decide_eq_true e2] at q
          have e3 : decide (d ∈ (tx (AN.take n.toNat)).cps) = decide (d ∈ AN.take n.toNat) := by
            congr 1
            exact em d
          show Q (V.bl (decide (d ∈ (tx (AN.take n.toNat)).cps))) H
          rw [e3]
          exact q
        · have e2 : ¬ c ∈ AN.take n.toNat := fun z => e1 ((em c).symm ▸ z)
          rw [decide_eq_false e2] at q
          exact q
    | c :: d :: e :: l, _, q, hz => simp [isLnk, tx, Str.length] at q ⊢; exact ⟨hz, q⟩
end
end AK
set_option Elab.async false
set_option linter.all false
set_option maxRecDepth 100000
set_option maxHeartbeats 4000000
namespace AK
open PySem PySem.Spec PyProof.Rows L2
abbrev look (fs : List (Str × V)) (f : Str) : Option V := fs.lookup f
/-- a network, at p: n variables, the rows of messages, the links -/
structure NetAt (C : Addr) (H : Hp) (p : Addr) (n : Int) (rows : List (List Str)) (links : List Str) : Prop where
  ex : ∃ (dx tn tl : Addr) (as : List Addr) (fs : List (Str × V)), H p = some (.ins C dx fs) ∧ look fs "variables" = some (.int n) ∧ look fs "nodes" = some (.ref tn) ∧ look fs "links" = some (.ref tl) ∧
    look fs "node_letters" = none ∧ look fs "variable_letters" = none ∧ look fs "messages" = none ∧ look fs "all_messages" = none ∧
    H tn = some (.tup (as.map V.ref)) ∧ H tl = some (.tup (links.map V.str)) ∧ as.length = rows.length ∧ ∀ (i : Nat) (r : List Str) (t : Addr), rows[i]? = some r → as[i]? = some t → H t = some (.tup (r.map V.str))
theorem NetAt.same {C : Addr} {H H' : Hp} {p : Addr} {n : Int} {rows : List (List Str)} {links : List Str} (h : NetAt C H p n rows links) (s : Same H H') : NetAt C H' p n rows links := by
  obtain ⟨dx, tn, tl, as, fs, h1, h2, h3, h4, h5, h6, h7, h8, h9, h10, h11, h12⟩ := h.ex
  exact ⟨dx, tn, tl, as, fs, s _ _ h1, h2, h3, h4, h5, h6, h7, h8, s _ _ h9, s _ _ h10, h11, fun i r t e1 e2 => s _ _ (h12 i r t e1 e2)⟩
section
variable {P : Program} {w : World} {K : PySem.W.Frag} {mg : Str → Option Value} {base : Heap} {a : Ads}
def spNL (C : Addr) : Sp := fun vs H Q _ => ∃ (p : Addr) (n : Int) (rows : List (List Str)) (links : List Str), vs = [.ref p] ∧ NetAt C H p n rows links ∧ Q (.str (tx (AN.take rows.length))) H
theorem ok_node_letters (T : Txt K mg a) : FnOk P w K mg base CX0 2 a.a_Network_node_letters a.d_Network_node_letters ["self"] (spNL a.c_Network) := by
  have G_first_letters := ok_first_letters (P := P) (w := w) (base := base) T
  refine T.F_Network_node_letters.ok sc_Network_node_letters (fun vs H Q E h => ?_) (fun cdv A outer s H vs Q E hr h => ?_)
  · obtain ⟨_, _, _, _, rfl, _⟩ := h
    rfl
  · obtain ⟨p, n, rows, links, rfl, hN, q⟩ := h
    obtain ⟨dx, tn, tl, as, fs, h1, h2, h3, h4, h5, h6, h7, h8, h9, h10, h11, h12⟩ := hN.ex
    refine ⟨_, (pss_one (ps_ret (pe_call G_first_letters (hr.mono (by first | decide | exact Nat.le_refl _ | omega)) (by rfl) T.g_first_letters T.F_first_letters.kp T.b_first_letters .nil pass0 (pa_cons (pe_glob (v := .str _) rfl T.m_NODE_LETTERS ⟨_, rfl⟩) (pa_cons (pe_callB callLenT (by rfl) T.z_len PySem.boot_len (pa_cons (pe_fld (pv 0) rfl) pa_nil)) pa_nil))))), ?_⟩
    simp only [tSeq, tAsg, tRet, tRetN, tDrop, tIfS, tNext, tNever, tOp, tUn, tVar, tC, rI0, rI, rU, tTest, tIf, tB, tAnd, tOr, tNot, tAndV, tOrV, tNotV, gName, gSub, gTupH, gCons, gNil, tYes, tCons, tNil, tLst, tTup, tCB, tCall, tMeth, tMake, tFld, sFld, tFor_c, tLc_c, iRng1, iList, iTup, iStr, iSeqB, iEnumB, tM1, tSl, tPart, tNoPart, rSlS, rIxS, tBM, rAppend, tIf, rEq, rNe, scal, hIx, hIxT, hIxB, hSet, hInt, hIntB, hLen, hLenT, hLenB, L2.start, wipe, List.map_cons, List.map_nil, List.set_cons_zero, List.set_cons_succ, List.set_nil, List.length_cons, List.length_nil, List.length_map, List.cons_append, List.nil_append, List.append_nil, List.replicate, List.getElem?_cons_zero, List.getElem?_cons_succ, Option.some.injEq, V.int.injEq, V.bl.injEq, V.ref.injEq, V.str.injEq, List.cons.injEq, exists_eq_left', exists_eq_left, exists_and_left, and_assoc, upd_same, upd_upd, HO.lst.injEq, HO.tup.injEq, atI_0, atI_1, atI_2, atI_3, set_1, set_2, set_3, CDiv, CPow, CMul, List.length_set, Int.reduceToNat, Int.reduceLE, Int.reduceLT, Int.reducePow, Int.reduceNeg, Nat.reduceAdd, Nat.reduceLT, Nat.reduceLeDiff, Nat.reducePow, Nat.zero_add, or_true, true_or, gt_iff_lt, ge_iff_le, and_true, true_and, decide_eq_true_eq, if_true, Bool.false_eq_true, if_false]
    refine ⟨a.c_Network, dx, fs, h1, T.C_Network, T.n_Network_nodes, _, h3, tn, rfl, _, h9, ?_⟩
    refine ⟨_, _, rfl, by decide +kernel, ?_⟩
    rw [List.length_map, h11]
    exact q
end
end AK
set_option Elab.async false
set_option linter.all false
set_option maxRecDepth 100000
set_option maxHeartbeats 4000000
namespace AK
open PySem PySem.Spec PyProof.Rows L2
/-! ### BadNetwork is made and raised -/
abbrev badF (v1 v2 v3 : V) : List (Str × V) := [("reason", v3), ("number", v2), ("part", v1)]
def BadAt (H H' : Hp) (d : Addr) (v1 v2 v3 : V) : Prop := Same H H' ∧ H' d = some (.xd (badF v1 v2 v3))
def spBNI (C : Addr) : Sp := fun vs H Q _ => ∃ (e : Addr) (v1 v2 v3 : V), vs = [.ref e, v1, v2, v3] ∧ H e = some (exo e C none) ∧
  ∀ d X1, H d = none → d ≠ e → Q .non (upd (upd (upd H d X1) e (exo e C (some d))) d (exd d (badF v1 v2 v3)))
theorem mk_bad {C : Addr} {H : Hp} {v1 v2 v3 : V} {Q : XK} (q : ∀ d H', BadAt H H' d v1 v2 v3 → Q (.ref C) (some d) H') :
    ∀ e, H e = none → spBNI C (.ref e :: ([v1, v2, v3] ++ [])) (upd H e (exo e C none)) (fun v H2 => v = .non ∧ ∃ d fs, H2 e = some (exo e C (some d)) ∧ H2 d = some (exd d fs) ∧ H d = none ∧ Q (.ref C) (some d) (upd (del H2 e) d (.xd fs))) (fun _ _ _ => False) := by
  intro e he
  refine ⟨e, v1, v2, v3, rfl, upd_same, fun d X1 hd hne => ?_⟩
  have hd' : H d = none := by rw [upd_ne hne] at hd; exact hd
  refine ⟨rfl, d, _, ?_, upd_same, hd', q d _ ⟨fun b o hb => ?_, upd_same⟩⟩
  · rw [upd_ne hne.symm, upd_same]
  · have b1 := ne_of_none hb he
    have b2 := ne_of_none hb hd'
    rw [upd_ne b2, del_ne b1, upd_ne b2, upd_ne b1, upd_ne b2, upd_ne b1]
    exact hb
section
variable {P : Program} {w : World} {K : PySem.W.Frag} {mg : Str → Option Value} {base : Heap} {a : Ads}
theorem ok_BadNetwork (T : Txt K mg a) : FnOk P w K mg base CX0 1 a.a_BadNetwork_init a.d_BadNetwork_init ["self", "part", "number", "reason"] (spBNI a.c_BadNetwork) := by
  refine T.F_BadNetwork_init.ok sc_BadNetwork_init (fun vs H Q E h => ?_) (fun cdv A outer s H vs Q E hr h => ?_)
  · obtain ⟨_, _, _, _, rfl, _⟩ := h
    rfl
  · obtain ⟨e, v1, v2, v3, rfl, he, q⟩ := h
    refine ⟨_, (pss_cons (ps_ost (pv 0) (pv 1) rfl)
      (pss_cons (ps_ost (pv 0) (pv 2) rfl)
      (pss_one (ps_ost (pv 0) (pv 3) rfl)))), ?_⟩
    refine ⟨_, rfl, _, rfl, e, a.c_BadNetwork, rfl, T.O_BadNetwork, T.n_BadNetwork_part, .inl ⟨he, fun d hd hne => ?_⟩⟩
    refine ⟨_, rfl, _, rfl, e, a.c_BadNetwork, rfl, T.O_BadNetwork, T.n_BadNetwork_number, .inr ⟨d, [("part", v1)], upd_same, ?_, Nat.le_of_ble_eq_true rfl, ?_⟩⟩
    · rw [upd_ne hne, upd_same]
    refine ⟨_, rfl, _, rfl, e, a.c_BadNetwork, rfl, T.O_BadNetwork, T.n_BadNetwork_reason, .inr ⟨d, [("number", v2), ("part", v1)], ?_, upd_same, Nat.le_of_ble_eq_true rfl, ?_⟩⟩
    · rw [upd_ne hne.symm, upd_same]
    have z := q d (exd d [("part", v1)]) hd hne
    rw [upd_upd]
    exact z
/-! ### the checks -/
def spCV (C : Addr) : Sp := fun vs H Q E => ∃ n : Int, vs = [.int n] ∧ (0 ≤ n → n ≤ 6 → Q .non H) ∧ (n < 0 ∨ 6 < n → ∀ d H', BadAt H H' d (.str "variables") .non (.str "range") → E (.ref C) (some d) H')
theorem ok_check_variables (T : Txt K mg a) : FnOk P w K mg base (L2.CX P w) 3 a.a_check_variables a.d_check_variables ["variables"] (spCV a.c_BadNetwork) := by
  have G_BadNetwork_init := ok_BadNetwork (P := P) (w := w) (base := base) T
  refine T.F_check_variables.okX sc_check_variables (fun vs H Q E h => ?_) (fun cdv A outer s H vs Q E hr h => ?_)
  · obtain ⟨_, rfl, _⟩ := h
    rfl
  · obtain ⟨n, rfl, q1, q2⟩ := h
    refine ⟨_, (pss_one (ps_if (PW.pt (pw_or (pt_cmpR op_lt (pv 0) pe_int (nomark _)) (pw_or1 (pt_cmpR op_gt (pv 0) (pe_glob (v := .int _) rfl T.m_MOST_VARIABLES ⟨_, rfl⟩) (nomark _)))))
      (pss_one (ps_raise rfl (takes_of rfl rfl rfl rfl) (pmk_oex T.O_BadNetwork T.I_BadNetwork_init T.T_BadNetwork_init G_BadNetwork_init (hr.mono (by first | decide | exact Nat.le_refl _ | omega)) T.b_BadNetwork_init .nil pass0 (by rfl) T.g_BadNetwork (pa_cons pe_str (pa_cons pe_non (pa_cons pe_str pa_nil))))))
      pss_nil)), ?_⟩
    simp only [tSeq, tAsg, tRet, tRetN, tDrop, tIfS, tNext, tNever, tOp, tUn, tVar, tC, rI0, rI, rU, tTest, tIf, tB, tAnd, tOr, tNot, tAndV, tOrV, tNotV, gName, gSub, gTupH, gCons, gNil, tYes, tCons, tNil, tLst, tTup, tCB, tCall, tMeth, tMake, tFld, sFld, tFor_c, tLc_c, iRng1, iList, iTup, iStr, iSeqB, iEnumB, tM1, tSl, tPart, tNoPart, rSlS, rIxS, tBM, rAppend, tIf, rEq, rNe, scal, hIx, hIxT, hIxB, hSet, hInt, hIntB, hLen, hLenT, hLenB, L2.start, wipe, List.map_cons, List.map_nil, List.set_cons_zero, List.set_cons_succ, List.set_nil, List.length_cons, List.length_nil, List.length_map, List.cons_append, List.nil_append, List.append_nil, List.replicate, List.getElem?_cons_zero, List.getElem?_cons_succ, Option.some.injEq, V.int.injEq, V.bl.injEq, V.ref.injEq, V.str.injEq, List.cons.injEq, exists_eq_left', exists_eq_left, exists_and_left, and_assoc, upd_same, upd_upd, HO.lst.injEq, HO.tup.injEq, atI_0, atI_1, atI_2, atI_3, set_1, set_2, set_3, CDiv, CPow, CMul, List.length_set, Int.reduceToNat, Int.reduceLE, Int.reduceLT, Int.reducePow, Int.reduceNeg, Nat.reduceAdd, Nat.reduceLT, Nat.reduceLeDiff, Nat.reducePow, Nat.zero_add, or_true, true_or, gt_iff_lt, ge_iff_le, and_true, true_and, decide_eq_true_eq, if_true, Bool.false_eq_true, if_false]
    have bad : n < 0 ∨ 6 < n → tMkO a.c_BadNetwork (spBNI a.c_BadNetwork) [] (tCons (tC (V.str "variables")) (tCons (tC V.non) (tCons (tC (V.str "range")) tNil))) (some (V.int n) :: List.replicate (1 - 1) none) H fun cls d H' => E cls d H' := fun h => ⟨Nat.le_of_ble_eq_true rfl, mk_bad (q2 h)⟩
    refine ite2 (fun c => bad (.inl c)) fun c => ite2 (fun c2 => bad (.inr c2)) fun c2 => q1 (by omega) (by omega)
/-- rows of texts, at p: lists or tuples -/
structure ArgAt (H : Hp) (p : Addr) (rows : List (List Str)) : Prop where
  ex : ∃ as : List Addr, RowAt H p (as.map V.ref) ∧ as.length = rows.length ∧ ∀ (i : Nat) (r : List Str) (t : Addr), rows[i]? = some r → as[i]? = some t → RowAt H t (r.map V.str)
theorem row_same {H H' : Hp} {p : Addr} {xs : List V} (h : RowAt H p xs) (s : Same H H') : RowAt H' p xs := h.imp (s _ _) (s _ _)
theorem ArgAt.same {H H' : Hp} {p : Addr} {rows : List (List Str)} (h : ArgAt H p rows) (s : Same H H') : ArgAt H' p rows := by
  obtain ⟨as, h1, h2, h3⟩ := h.ex
  exact ⟨as, row_same h1 s, h2, fun i r t e1 e2 => row_same (h3 i r t e1 e2) s⟩
/-- what is wrong with a row of messages -/
def rowBad (n : Int) (r : List Str) : Option Str := if 4 < r.length then some "count" else if r.all (isMsg n) then none else some "message"
def spCN (C : Addr) : Sp := fun vs H Q E => ∃ (n : Int) (p : Addr) (rows : List (List Str)), vs = [.int n, .ref p] ∧ ArgAt H p rows ∧
  (1 ≤ rows.length → rows.length ≤ 6 → (∀ r ∈ rows, rowBad n r = none) → ∀ H', Same H H' → Q .non H') ∧
  (rows.length < 1 ∨ 6 < rows.length → ∀ d H', BadAt H H' d (.str "nodes") .non (.str "count") → E (.ref C) (some d) H') ∧
  (∀ (i : Nat) (r : List Str) (why : Str), 1 ≤ rows.length → rows.length ≤ 6 → rows[i]? = some r → (∀ x ∈ rows.take i, rowBad n x = none) → rowBad n r = some why → ∀ d H', BadAt H H' d (.str "nodes") (.int i) (.str why) → E (.ref C) (some d) H')
theorem forEnumB {g : TG} {tb : TS} {D : Ends} {σ : L2.St} {H : Hp} {K : PySem.W.Frag} {p : Addr} {xs : List V} (hr : RowAt H p xs) (Pv : Nat → L2.St → Hp → Prop) (h0 : Pv 0 σ H) (hl : ∀ i σ H', Pv i σ H' → Same H H')
    (hs : ∀ i x T σ H, xs[i]? = some x → Pv i σ H → H T = none → g (.ref T) σ (upd H T (.tup [.int (i : Nat), x])) fun σ2 H2 => tb { D with nx := Pv (i + 1), ct := Pv (i + 1), bk := D.nx } σ2 H2) (hd : ∀ σ H, Pv xs.length σ H → D.nx σ H) :
    (∃ ys, SqL K H p ys ∧ contF g tb D σ (Ite K p) H) ∨ (∃ ys, SqT K H p ys ∧ contF g tb D σ (IteT K p) H) := by
  rcases hr with hr | hr
  · exact .inl ⟨xs, SqL.of hr, forEnumL Pv h0 (fun i σ H' _ z => SqL.of (hl i σ H' z _ _ hr)) hs hd⟩
  · exact .inr ⟨xs, SqT.of hr, forEnumT Pv h0 (fun i σ H' _ z => SqT.of (hl i σ H' z _ _ hr)) hs hd⟩
theorem forSeqB {g : TG} {tb : TS} {D : Ends} {σ : L2.St} {H : Hp} {K : PySem.W.Frag} {p : Addr} {xs : List V} (hr : RowAt H p xs) (Pv : Nat → L2.St → Hp → Prop) (h0 : Pv 0 σ H) (hl : ∀ i σ H', Pv i σ H' → Same H H')
    (hs : ∀ i x σ H, xs[i]? = some x → Pv i σ H → g x σ H fun σ2 H2 => tb { D with nx := Pv (i + 1), ct := Pv (i + 1), bk := D.nx } σ2 H2) (hd : ∀ σ H, Pv xs.length σ H → D.nx σ H) :
    (∃ ys, SqL K H p ys ∧ contF g tb D σ (Itl K p) H) ∨ (∃ ys, SqT K H p ys ∧ contF g tb D σ (Itt K p) H) := by
  rcases hr with hr | hr
  · exact .inl ⟨xs, SqL.of hr, forLst Pv h0 (fun i σ H' _ z => SqL.of (hl i σ H' z _ _ hr)) hs hd⟩
  · exact .inr ⟨xs, SqT.of hr, forTup Pv h0 (fun i σ H' _ z => SqT.of (hl i σ H' z _ _ hr)) hs hd⟩
theorem ok_check_nodes (T : Txt K mg a) : FnOk P w K mg base (L2.CX P w) 3 a.a_check_nodes a.d_check_nodes ["variables", "nodes"] (spCN a.c_BadNetwork) := by
  have G_BadNetwork_init := ok_BadNetwork (P := P) (w := w) (base := base) T
  have G_is_message := ok_is_message (P := P) (w := w) (base := base) T
  refine T.F_check_nodes.okX sc_check_nodes (fun vs H Q E h => ?_) (fun cdv A outer s H vs Q E hr h => ?_)
  · obtain ⟨_, _, _, rfl, _⟩ := h
    rfl
  · obtain ⟨n, p, rows, rfl, hA, q1, q2, q3⟩ := h
    obtain ⟨as, hp, hal, hrow⟩ := hA.ex
    refine ⟨_, (pss_cons (ps_if (PW.pt (pw_or (pt_cmpR op_lt (pe_callB callLenB (by rfl) T.z_len PySem.boot_len (pa_cons (pv 1) pa_nil)) pe_int (nomark _)) (pw_or1 (pt_cmpR op_gt (pe_callB callLenB (by rfl) T.z_len PySem.boot_len (pa_cons (pv 1) pa_nil)) (pe_glob (v := .int _) rfl T.m_MOST_NODES ⟨_, rfl⟩) (nomark _)))))
      (pss_one (ps_raise rfl (takes_of rfl rfl rfl rfl) (pmk_oex T.O_BadNetwork T.I_BadNetwork_init T.T_BadNetwork_init G_BadNetwork_init (hr.mono (by first | decide | exact Nat.le_refl _ | omega)) T.b_BadNetwork_init .nil pass0 (by rfl) T.g_BadNetwork (pa_cons pe_str (pa_cons pe_non (pa_cons pe_str pa_nil))))))
      pss_nil)
      (pss_one (ps_for (passes_of rfl) rfl (pi_enumB (by rfl) T.z_enumerate (pa_cons (pv 1) pa_nil)) (pg_tupH (n := 2) (by rfl) (pgs_cons (pg_name (i := 2) sc_check_nodes.nd rfl (.inl rfl)) (pgs_cons (pg_name (i := 3) sc_check_nodes.nd rfl (.inl rfl)) pgs_nil)))
      (pss_cons (ps_if (pt_cmpR op_gt (pe_callB callLenB (by rfl) T.z_len PySem.boot_len (pa_cons (pv 3) pa_nil)) (pe_glob (v := .int _) rfl T.m_MOST_MESSAGES ⟨_, rfl⟩) (nomark _))
      (pss_one (ps_raise rfl (takes_of rfl rfl rfl rfl) (pmk_oex T.O_BadNetwork T.I_BadNetwork_init T.T_BadNetwork_init G_BadNetwork_init (hr.mono (by first | decide | exact Nat.le_refl _ | omega)) T.b_BadNetwork_init .nil pass0 (by rfl) T.g_BadNetwork (pa_cons pe_str (pa_cons (pv 2) (pa_cons pe_str pa_nil))))))
      pss_nil)
      (pss_one (ps_for (passes_of rfl) rfl (pi_seqB (pv 3)) (pg_name (i := 4) sc_check_nodes.nd rfl (.inl rfl))
      (pss_one (ps_if (pt_not (pt_val (pe_call G_is_message (hr.mono (by first | decide | exact Nat.le_refl _ | omega)) (by rfl) T.g_is_message T.F_is_message.kp T.b_is_message .nil pass0 (pa_cons (pv 0) (pa_cons (pv 4) pa_nil)))))
      (pss_one (ps_raise rfl (takes_of rfl rfl rfl rfl) (pmk_oex T.O_BadNetwork T.I_BadNetwork_init T.T_BadNetwork_init G_BadNetwork_init (hr.mono (by first | decide | exact Nat.le_refl _ | omega)) T.b_BadNetwork_init .nil pass0 (by rfl) T.g_BadNetwork (pa_cons pe_str (pa_cons (pv 2) (pa_cons pe_str pa_nil))))))
      pss_nil)))))))), ?_⟩
    simp only [tSeq, tAsg, tRet, tRetN, tDrop, tIfS, tNext, tNever, tOp, tUn, tVar, tC, rI0, rI, rU, tTest, tIf, tB, tAnd, tOr, tNot, tAndV, tOrV, tNotV, gName, gSub, gTupH, gCons, gNil, tYes, tCons, tNil, tLst, tTup, tCB, tCall, tMeth, tMake, tFld, sFld, tFor_c, tLc_c, iRng1, iList, iTup, iStr, iSeqB, iEnumB, tM1, tSl, tPart, tNoPart, rSlS, rIxS, tBM, rAppend, tIf, rEq, rNe, scal, hIx, hIxT, hIxB, hSet, hInt, hIntB, hLen, hLenT, hLenB, L2.start, wipe, List.map_cons, List.map_nil, List.set_cons_zero, List.set_cons_succ, List.set_nil, List.length_cons, List.length_nil, List.length_map, List.cons_append, List.nil_append, List.append_nil, List.replicate, List.getElem?_cons_zero, List.getElem?_cons_succ, Option.some.injEq, V.int.injEq, V.bl.injEq, V.ref.injEq, V.str.injEq, List.cons.injEq, exists_eq_left', exists_eq_left, exists_and_left, and_assoc, upd_same, upd_upd, HO.lst.injEq, HO.tup.injEq, atI_0, atI_1, atI_2, atI_3, set_1, set_2, set_3, CDiv, CPow, CMul, List.length_set, Int.reduceToNat, Int.reduceLE, Int.reduceLT, Int.reducePow, Int.reduceNeg, Nat.reduceAdd, Nat.reduceLT, Nat.reduceLeDiff, Nat.reducePow, Nat.zero_add, or_true, true_or, gt_iff_lt, ge_iff_le, and_true, true_and, decide_eq_true_eq, if_true, Bool.false_eq_true, if_false]
    have tl : ∀ (why : V) (num : V) (σ : L2.St) (H0 : Hp), Same H H0 → (∀ d H', BadAt H0 H' d (.str "nodes") num why → E (.ref a.c_BadNetwork) (some d) H') → ∀ te : TE, (∀ R : VK, R num H0 → te σ H0 R) → tMkO a.c_BadNetwork (spBNI a.c_BadNetwork) [] (tCons (tC (V.str "nodes")) (tCons te (tCons (tC why) tNil))) σ H0 fun cls d H' => E cls d H' :=
      fun why num σ H0 hs q te ht => ht _ ⟨Nat.le_of_ble_eq_true rfl, mk_bad q⟩
    have c0 : (rows.length < 1 ∨ 6 < rows.length) → tMkO a.c_BadNetwork (spBNI a.c_BadNetwork) [] (tCons (tC (V.str "nodes")) (tCons (tC V.non) (tCons (tC (V.str "count")) tNil))) [some (V.int n), some (V.ref p), none, none, none] H fun cls d H' => E cls d H' :=
      fun h => tl _ .non _ H (Same.refl _) (q2 h) _ fun R z => z
    have el : (as.map V.ref).length = rows.length := by rw [List.length_map, hal]
    refine ⟨_, hp, ?_⟩
    rw [el]
    refine ite2 (fun c => c0 (.inl (by omega))) fun c => ⟨_, hp, ?_⟩
    rw [el]
    refine ite2 (fun c2 => c0 (.inr (by omega))) fun c2 => ?_
    refine forEnumB hp (fun i σ H' => (∃ v2 v3 v4, σ = [some (.int n), some (.ref p), v2, v3, v4]) ∧ Same H H' ∧ ∀ x ∈ rows.take i, rowBad n x = none) ⟨⟨none, none, none, rfl⟩, Same.refl _, fun x hx => by rw [List.take_zero] at hx; cases hx⟩ (fun i σ H' z => z.2.1) ?_ ?_
    · rintro i x U σ H' hx ⟨⟨v2, v3, v4, rfl⟩, hs, ok⟩ hU
      obtain ⟨t, ht, rfl⟩ := map_at hx
      have hi : i < rows.length := by
        rw [← hal]
        exact (List.getElem?_eq_some_iff.mp ht).1
      have hri : rows[i]? = some rows[i] := List.getElem?_eq_getElem hi
      have s2 : Same H (upd H' U (.tup [.int (i : Nat), .ref t])) := Same.tr hs (same_new hU)
      have hrow1 := row_same (hrow i _ t hri ht) s2
      have bad : ∀ why : Str, rowBad n rows[i] = some why → ∀ (H0 : Hp), Same (upd H' U (.tup [.int (i : Nat), .ref t])) H0 → ∀ d H1, BadAt H0 H1 d (.str "nodes") (.int i) (.str why) → E (.ref a.c_BadNetwork) (some d) H1 := fun why e H0 s0 d H1 hb => q3 i _ why (by omega) (by omega) hri ok e d H1 ⟨Same.tr (Same.tr s2 s0) hb.1, hb.2⟩
      simp only [tSeq, tAsg, tRet, tRetN, tDrop, tIfS, tNext, tNever, tOp, tUn, tVar, tC, rI0, rI, rU, tTest, tIf, tB, tAnd, tOr, tNot, tAndV, tOrV, tNotV, gName, gSub, gTupH, gCons, gNil, tYes, tCons, tNil, tLst, tTup, tCB, tCall, tMeth, tMake, tFld, sFld, tFor_c, tLc_c, iRng1, iList, iTup, iStr, iSeqB, iEnumB, tM1, tSl, tPart, tNoPart, rSlS, rIxS, tBM, rAppend, tIf, rEq, rNe, scal, hIx, hIxT, hIxB, hSet, hInt, hIntB, hLen, hLenT, hLenB, L2.start, wipe, List.map_cons, List.map_nil, List.set_cons_zero, List.set_cons_succ, List.set_nil, List.length_cons, List.length_nil, List.length_map, List.cons_append, List.nil_append, List.append_nil, List.replicate, List.getElem?_cons_zero, List.getElem?_cons_succ, Option.some.injEq, V.int.injEq, V.bl.injEq, V.ref.injEq, V.str.injEq, List.cons.injEq, exists_eq_left', exists_eq_left, exists_and_left, and_assoc, upd_same, upd_upd, HO.lst.injEq, HO.tup.injEq, atI_0, atI_1, atI_2, atI_3, set_1, set_2, set_3, CDiv, CPow, CMul, List.length_set, Int.reduceToNat, Int.reduceLE, Int.reduceLT, Int.reducePow, Int.reduceNeg, Nat.reduceAdd, Nat.reduceLT, Nat.reduceLeDiff, Nat.reducePow, Nat.zero_add, or_true, true_or, gt_iff_lt, ge_iff_le, and_true, true_and, decide_eq_true_eq, if_true, Bool.false_eq_true, if_false]
      refine ⟨_, hrow1, ?_⟩
      rw [List.length_map]
      refine ite2 (fun c3 => tl _ (.int i) _ _ s2 (bad "count" (by unfold rowBad; rw [if_pos (by omega)]) _ (Same.refl _)) _ fun R z => ⟨_, rfl, z⟩) fun c3 => ?_
      refine forSeqB hrow1 (fun j σ H1 => (∃ w4, σ = [some (.int n), some (.ref p), some (.int (i : Nat)), some (.ref t), w4]) ∧ Same (upd H' U (.tup [.int (i : Nat), .ref t])) H1 ∧ ∀ x ∈ rows[i].take j, isMsg n x = true) ⟨⟨_, rfl⟩, Same.refl _, fun x hx => by rw [List.take_zero] at hx; cases hx⟩ (fun i σ H' z => z.2.1) ?_ ?_
      · rintro j x σ H1 hx ⟨⟨w4, rfl⟩, s3, okj⟩
        obtain ⟨m, hm, rfl⟩ := map_at hx
        simp only [tSeq, tAsg, tRet, tRetN, tDrop, tIfS, tNext, tNever, tOp, tUn, tVar, tC, rI0, rI, rU, tTest, tIf, tB, tAnd, tOr, tNot, tAndV, tOrV, tNotV, gName, gSub, gTupH, gCons, gNil, tYes, tCons, tNil, tLst, tTup, tCB, tCall, tMeth, tMake, tFld, sFld, tFor_c, tLc_c, iRng1, iList, iTup, iStr, iSeqB, iEnumB, tM1, tSl, tPart, tNoPart, rSlS, rIxS, tBM, rAppend, tIf, rEq, rNe, scal, hIx, hIxT, hIxB, hSet, hInt, hIntB, hLen, hLenT, hLenB, L2.start, wipe, List.map_cons, List.map_nil, List.set_cons_zero, List.set_cons_succ, List.set_nil, List.length_cons, List.length_nil, List.length_map, List.cons_append, List.nil_append, List.append_nil, List.replicate, List.getElem?_cons_zero, List.getElem?_cons_succ, Option.some.injEq, V.int.injEq, V.bl.injEq, V.ref.injEq, V.str.injEq, List.cons.injEq, exists_eq_left', exists_eq_left, exists_and_left, and_assoc, upd_same, upd_upd, HO.lst.injEq, HO.tup.injEq, atI_0, atI_1, atI_2, atI_3, set_1, set_2, set_3, CDiv, CPow, CMul, List.length_set, Int.reduceToNat, Int.reduceLE, Int.reduceLT, Int.reducePow, Int.reduceNeg, Nat.reduceAdd, Nat.reduceLT, Nat.reduceLeDiff, Nat.reducePow, Nat.zero_add, or_true, true_or, gt_iff_lt, ge_iff_le, and_true, true_and, decide_eq_true_eq, if_true, Bool.false_eq_true, if_false]
        refine ⟨n, m, rfl, fun H2 s4 => ?_⟩
        refine ⟨_, rfl, ?_⟩
        by_cases e : isMsg n m = true
        · rw [e]
          refine iteF ⟨⟨_, rfl⟩, Same.tr s3 s4, fun x hx => ?_⟩
          rw [take_s hm] at hx
          rcases List.mem_append.mp hx with z | z
          · exact okj x z
          · rw [List.mem_singleton.mp z]
            exact e
        · rw [Bool.eq_false_iff.mpr e]
          refine iteT ?_
          refine tl _ (.int i) _ _ (Same.tr s2 (Same.tr s3 s4)) (bad "message" ?_ _ (Same.tr s3 s4)) _ fun R z => ⟨_, rfl, z⟩
          unfold rowBad
          rw [if_neg (by omega), if_neg]
          intro z
          exact e (List.all_eq_true.mp z m (List.mem_of_getElem? hm))
      · rintro σ H1 ⟨⟨w4, rfl⟩, s3, okj⟩
        rw [List.length_map, List.take_length] at okj
        refine ⟨⟨_, _, _, rfl⟩, Same.tr s2 s3, fun x hx => ?_⟩
        rw [take_s hri] at hx
        rcases List.mem_append.mp hx with z | z
        · exact ok x z
        · rw [List.mem_singleton.mp z]
          unfold rowBad
          rw [if_neg (by omega), if_pos (List.all_eq_true.mpr okj)]
    · rintro σ H' ⟨_, hs, ok⟩
      rw [el, List.take_length] at ok
      exact q1 (by omega) (by omega) ok H' hs
end
end AK
set_option Elab.async false
set_option linter.all false
set_option maxRecDepth 100000
set_option maxHeartbeats 4000000
namespace AK
open PySem PySem.Spec PyProof.Rows L2
section
variable {P : Program} {w : World} {K : PySem.W.Frag} {mg : Str → Option Value} {base : Heap} {a : Ads}
def spCL (C : Addr) : Sp := fun vs H Q E => ∃ (m : Int) (p : Addr) (links : List Str), vs = [.int m, .ref p] ∧ RowAt H p (links.map V.str) ∧ (∀ x ∈ links, x.length ≤ 1000) ∧
  (links.length ≤ 16 → (∀ x ∈ links, isLnk m (lt x) = true) → ∀ H', Same H H' → Q .non H') ∧
  (16 < links.length → ∀ d H', BadAt H H' d (.str "links") .non (.str "count") → E (.ref C) (some d) H') ∧
  (∀ (i : Nat) (x : Str), links.length ≤ 16 → links[i]? = some x → (∀ y ∈ links.take i, isLnk m (lt y) = true) → isLnk m (lt x) = false → ∀ d H', BadAt H H' d (.str "links") (.int i) (.str "link") → E (.ref C) (some d) H')
theorem ok_check_links (T : Txt K mg a) : FnOk P w K mg base (L2.CX P w) 3 a.a_check_links a.d_check_links ["nodes", "links"] (spCL a.c_BadNetwork) := by
  have G_BadNetwork_init := ok_BadNetwork (P := P) (w := w) (base := base) T
  have G_is_link := ok_is_link (P := P) (w := w) (base := base) T
  refine T.F_check_links.okX sc_check_links (fun vs H Q E h => ?_) (fun cdv A outer s H vs Q E hr h => ?_)
  · obtain ⟨_, _, _, rfl, _⟩ := h
    rfl
  · obtain ⟨m, p, links, rfl, hp, hsz, q1, q2, q3⟩ := h
    refine ⟨_, (pss_cons (ps_if (pt_cmpR op_gt (pe_callB callLenB (by rfl) T.z_len PySem.boot_len (pa_cons (pv 1) pa_nil)) (pe_glob (v := .int _) rfl T.m_MOST_LINKS ⟨_, rfl⟩) (nomark _))
      (pss_one (ps_raise rfl (takes_of rfl rfl rfl rfl) (pmk_oex T.O_BadNetwork T.I_BadNetwork_init T.T_BadNetwork_init G_BadNetwork_init (hr.mono (by first | decide | exact Nat.le_refl _ | omega)) T.b_BadNetwork_init .nil pass0 (by rfl) T.g_BadNetwork (pa_cons pe_str (pa_cons pe_non (pa_cons pe_str pa_nil))))))
      pss_nil)
      (pss_one (ps_for (passes_of rfl) rfl (pi_enumB (by rfl) T.z_enumerate (pa_cons (pv 1) pa_nil)) (pg_tupH (n := 2) (by rfl) (pgs_cons (pg_name (i := 2) sc_check_links.nd rfl (.inl rfl)) (pgs_cons (pg_name (i := 3) sc_check_links.nd rfl (.inl rfl)) pgs_nil)))
      (pss_one (ps_if (pt_not (pt_val (pe_call G_is_link (hr.mono (by first | decide | exact Nat.le_refl _ | omega)) (by rfl) T.g_is_link T.F_is_link.kp T.b_is_link .nil pass0 (pa_cons (pv 0) (pa_cons (pv 3) pa_nil)))))
      (pss_one (ps_raise rfl (takes_of rfl rfl rfl rfl) (pmk_oex T.O_BadNetwork T.I_BadNetwork_init T.T_BadNetwork_init G_BadNetwork_init (hr.mono (by first | decide | exact Nat.le_refl _ | omega)) T.b_BadNetwork_init .nil pass0 (by rfl) T.g_BadNetwork (pa_cons pe_str (pa_cons (pv 2) (pa_cons pe_str pa_nil))))))
      pss_nil))))), ?_⟩
    simp only [tSeq, tAsg, tRet, tRetN, tDrop, tIfS, tNext, tNever, tOp, tUn, tVar, tC, rI0, rI, rU, tTest, tIf, tB, tAnd, tOr, tNot, tAndV, tOrV, tNotV, gName, gSub, gTupH, gCons, gNil, tYes, tCons, tNil, tLst, tTup, tCB, tCall, tMeth, tMake, tFld, sFld, tFor_c, tLc_c, iRng1, iList, iTup, iStr, iSeqB, iEnumB, tM1, tSl, tPart, tNoPart, rSlS, rIxS, tBM, rAppend, tIf, rEq, rNe, scal, hIx, hIxT, hIxB, hSet, hInt, hIntB, hLen, hLenT, hLenB, L2.start, wipe, List.map_cons, List.map_nil, List.set_cons_zero, List.set_cons_succ, List.set_nil, List.length_cons, List.length_nil, List.length_map, List.cons_append, List.nil_append, List.append_nil, List.replicate, List.getElem?_cons_zero, List.getElem?_cons_succ, Option.some.injEq, V.int.injEq, V.bl.injEq, V.ref.injEq, V.str.injEq, List.cons.injEq, exists_eq_left', exists_eq_left, exists_and_left, and_assoc, upd_same, upd_upd, HO.lst.injEq, HO.tup.injEq, atI_0, atI_1, atI_2, atI_3, set_1, set_2, set_3, CDiv, CPow, CMul, List.length_set, Int.reduceToNat, Int.reduceLE, Int.reduceLT, Int.reducePow, Int.reduceNeg, Nat.reduceAdd, Nat.reduceLT, Nat.reduceLeDiff, Nat.reducePow, Nat.zero_add, or_true, true_or, gt_iff_lt, ge_iff_le, and_true, true_and, decide_eq_true_eq, if_true, Bool.false_eq_true, if_false]
    have el : (links.map V.str).length = links.length := List.length_map _
    refine ⟨_, hp, ?_⟩
    rw [el]
    refine ite2 (fun c => ⟨Nat.le_of_ble_eq_true rfl, mk_bad (q2 (by omega))⟩) fun c => ?_
    refine forEnumB hp (fun i σ H' => (∃ v2 v3, σ = [some (.int m), some (.ref p), v2, v3]) ∧ Same H H' ∧ ∀ x ∈ links.take i, isLnk m (lt x) = true) ⟨⟨none, none, rfl⟩, Same.refl _, fun x hx => by rw [List.take_zero] at hx; cases hx⟩ (fun i σ H' z => z.2.1) ?_ ?_
    · rintro i x U σ H' hx ⟨⟨v2, v3, rfl⟩, hs, ok⟩ hU
      obtain ⟨t, ht, rfl⟩ := map_at hx
      have s2 : Same H (upd H' U (.tup [.int (i : Nat), .str t])) := Same.tr hs (same_new hU)
      simp only [tSeq, tAsg, tRet, tRetN, tDrop, tIfS, tNext, tNever, tOp, tUn, tVar, tC, rI0, rI, rU, tTest, tIf, tB, tAnd, tOr, tNot, tAndV, tOrV, tNotV, gName, gSub, gTupH, gCons, gNil, tYes, tCons, tNil, tLst, tTup, tCB, tCall, tMeth, tMake, tFld, sFld, tFor_c, tLc_c, iRng1, iList, iTup, iStr, iSeqB, iEnumB, tM1, tSl, tPart, tNoPart, rSlS, rIxS, tBM, rAppend, tIf, rEq, rNe, scal, hIx, hIxT, hIxB, hSet, hInt, hIntB, hLen, hLenT, hLenB, L2.start, wipe, List.map_cons, List.map_nil, List.set_cons_zero, List.set_cons_succ, List.set_nil, List.length_cons, List.length_nil, List.length_map, List.cons_append, List.nil_append, List.append_nil, List.replicate, List.getElem?_cons_zero, List.getElem?_cons_succ, Option.some.injEq, V.int.injEq, V.bl.injEq, V.ref.injEq, V.str.injEq, List.cons.injEq, exists_eq_left', exists_eq_left, exists_and_left, and_assoc, upd_same, upd_upd, HO.lst.injEq, HO.tup.injEq, atI_0, atI_1, atI_2, atI_3, set_1, set_2, set_3, CDiv, CPow, CMul, List.length_set, Int.reduceToNat, Int.reduceLE, Int.reduceLT, Int.reducePow, Int.reduceNeg, Nat.reduceAdd, Nat.reduceLT, Nat.reduceLeDiff, Nat.reducePow, Nat.zero_add, or_true, true_or, gt_iff_lt, ge_iff_le, and_true, true_and, decide_eq_true_eq, if_true, Bool.false_eq_true, if_false]
      refine ⟨m, t, rfl, hsz t (List.mem_of_getElem? ht), _, rfl, ?_⟩
      by_cases e : isLnk m (lt t) = true
      · rw [e]
        refine iteF ⟨⟨_, rfl⟩, s2, fun x hx => ?_⟩
        rw [take_s ht] at hx
        rcases List.mem_append.mp hx with z | z
        · exact ok x z
        · rw [List.mem_singleton.mp z]
          exact e
      · rw [Bool.eq_false_iff.mpr e]
        refine iteT ⟨_, rfl, Nat.le_of_ble_eq_true rfl, mk_bad fun d H1 hb => q3 i t (by omega) ht ok (Bool.eq_false_iff.mpr e) d H1 ⟨Same.tr s2 hb.1, hb.2⟩⟩
    · rintro σ H' ⟨_, hs, ok⟩
      rw [el, List.take_length] at ok
      exact q1 (by omega) ok H' hs
/-! ### Network(variables, nodes, links) -/
inductive Wrong (n : Int) (rows : List (List Str)) (links : List Str) : V → V → V → Prop where
  | vars (h : n < 0 ∨ 6 < n) : Wrong n rows links (.str "variables") .non (.str "range")
  | nodes (h0 : 0 ≤ n ∧ n ≤ 6) (h : rows.length < 1 ∨ 6 < rows.length) : Wrong n rows links (.str "nodes") .non (.str "count")
  | row (h0 : 0 ≤ n ∧ n ≤ 6) (h1 : 1 ≤ rows.length ∧ rows.length ≤ 6) {i : Nat} {r : List Str} {why : Str} (hi : rows[i]? = some r) (ok : ∀ x ∈ rows.take i, rowBad n x = none) (b : rowBad n r = some why) : Wrong n rows links (.str "nodes") (.int i) (.str why)
  | links (h0 : 0 ≤ n ∧ n ≤ 6) (h1 : 1 ≤ rows.length ∧ rows.length ≤ 6) (h2 : ∀ r ∈ rows, rowBad n r = none) (h : 16 < links.length) : Wrong n rows links (.str "links") .non (.str "count")
  | link (h0 : 0 ≤ n ∧ n ≤ 6) (h1 : 1 ≤ rows.length ∧ rows.length ≤ 6) (h2 : ∀ r ∈ rows, rowBad n r = none) (h3 : links.length ≤ 16) {i : Nat} {x : Str} (hi : links[i]? = some x) (ok : ∀ y ∈ links.take i, isLnk rows.length (lt y) = true) (b : isLnk rows.length (lt x) = false) :
      Wrong n rows links (.str "links") (.int i) (.str "link")
structure Right (n : Int) (rows : List (List Str)) (links : List Str) : Prop where
  h0 : 0 ≤ n ∧ n ≤ 6
  h1 : 1 ≤ rows.length ∧ rows.length ≤ 6
  h2 : ∀ r ∈ rows, rowBad n r = none
  h3 : links.length ≤ 16
  h4 : ∀ x ∈ links, isLnk rows.length (lt x) = true
/-- all is as it was but for what stands at P and p -/
def Off (P p : Addr) (H H' : Hp) : Prop := ∀ b o, b ≠ P → b ≠ p → H b = some o → H' b = some o
def spNet (C CB tb : Addr) : Sp := fun vs H Q E => ∃ (p dx : Addr) (n : Int) (pn pl : Addr) (rows : List (List Str)) (links : List Str), vs = [.ref p, .int n, .ref pn, .ref pl] ∧ H p = some (.ins C dx []) ∧ ArgAt H pn rows ∧ RowAt H pl (links.map V.str) ∧
  (∀ x ∈ links, x.length ≤ 1000) ∧ GxR.TabG H tb ∧ (Right n rows links → ∀ H', Off tb p H H' → GxR.TabG H' tb → NetAt C H' p n rows links → Q .non H') ∧ (∀ v1 v2 v3, Wrong n rows links v1 v2 v3 → ∀ d H', BadAt H H' d v1 v2 v3 → E (.ref CB) (some d) H')
theorem tab_same {H H' : Hp} {tb : Addr} (h : GxR.TabG H tb) (s : Same H H') : GxR.TabG H' tb := by
  obtain ⟨ps, e, t⟩ := h
  exact ⟨ps, s _ _ e, t⟩
theorem look_put (f g : Str) (v : V) (fs : List (Str × V)) : look (putF f v fs) g = if g = f then some v else look fs g := lookup_putF f g v fs
theorem ok_Network (T : Txt K mg a) (hT : GxR.TabB base mg a.cG_Network_init a.tG_Network_init) : FnOk P w K mg base (L2.CX P w) 4 a.a_Network_init a.d_Network_init ["self", "variables", "nodes", "links"] (spNet a.c_Network a.c_BadNetwork a.tG_Network_init) := by
  have G_check_variables := ok_check_variables (P := P) (w := w) (base := base) T
  have G_check_nodes := ok_check_nodes (P := P) (w := w) (base := base) T
  have G_check_links := ok_check_links (P := P) (w := w) (base := base) T
  refine T.FC_Network_init.okC sc_Network_init (fun vs H Q E h => ?_) (fun A outer s H vs Q E hr h => ?_)
  · obtain ⟨_, _, _, _, _, _, _, rfl, _⟩ := h
    rfl
  · obtain ⟨p, dx, n, pn, pl, rows, links, rfl, hp, hA, hL, hsz, hTb, q1, q2⟩ := h
    refine ⟨_, (pss_cons (ps_expr (pe_call G_check_variables (hr.mono (by first | decide | exact Nat.le_refl _ | omega)) (by rfl) T.g_check_variables T.F_check_variables.kp T.b_check_variables .nil (passes_call (E := E) (takes_of rfl rfl rfl rfl) (fun _ _ _ _ z => z)) (pa_cons (pv 1) pa_nil)))
      (pss_cons (ps_expr (pe_call G_check_nodes (hr.mono (by first | decide | exact Nat.le_refl _ | omega)) (by rfl) T.g_check_nodes T.F_check_nodes.kp T.b_check_nodes .nil (passes_call (E := E) (takes_of rfl rfl rfl rfl) (fun _ _ _ _ z => z)) (pa_cons (pv 1) (pa_cons (pv 2) pa_nil))))
      (pss_cons (ps_expr (pe_call G_check_links (hr.mono (by first | decide | exact Nat.le_refl _ | omega)) (by rfl) T.g_check_links T.F_check_links.kp T.b_check_links .nil (passes_call (E := E) (takes_of rfl rfl rfl rfl) (fun _ _ _ _ z => z)) (pa_cons (pe_callB callLenB (by rfl) T.z_len PySem.boot_len (pa_cons (pv 2) pa_nil)) (pa_cons (pv 3) pa_nil))))
      (pss_cons (ps_fld (pv 0) (pv 1) rfl)
      (pss_cons (ps_fld (pv 0) (pe_tupG hr (by rfl) T.z_tuple hT rfl ⟨rfl, rfl, by decide +kernel, by decide +kernel, by decide +kernel, fun y hy e => (free_no (by decide +kernel) y hy e).elim⟩ (pv 2) (by decide +kernel) (by decide +kernel) (by intro _; rfl)) rfl)
      (pss_one (ps_fld (pv 0) (pe_callTy callTupB (by rfl) T.z_tuple (by decide +kernel) (pa_cons (pv 3) pa_nil)) rfl))))))), ?_⟩
    simp only [tSeq, tAsg, tRet, tRetN, tDrop, tIfS, tNext, tNever, tOp, tUn, tVar, tC, rI0, rI, rU, tTest, tIf, tB, tAnd, tOr, tNot, tAndV, tOrV, tNotV, gName, gSub, gTupH, gCons, gNil, tYes, tCons, tNil, tLst, tTup, tCB, tCall, tMeth, tMake, tFld, sFld, tFor_c, tLc_c, iRng1, iList, iTup, iStr, iSeqB, iEnumB, tM1, tSl, tPart, tNoPart, rSlS, rIxS, tBM, rAppend, tIf, rEq, rNe, scal, hIx, hIxT, hIxB, hSet, hInt, hIntB, hLen, hLenT, hLenB, L2.start, wipe, List.map_cons, List.map_nil, List.set_cons_zero, List.set_cons_succ, List.set_nil, List.length_cons, List.length_nil, List.length_map, List.cons_append, List.nil_append, List.append_nil, List.replicate, List.getElem?_cons_zero, List.getElem?_cons_succ, Option.some.injEq, V.int.injEq, V.bl.injEq, V.ref.injEq, V.str.injEq, List.cons.injEq, exists_eq_left', exists_eq_left, exists_and_left, and_assoc, upd_same, upd_upd, HO.lst.injEq, HO.tup.injEq, atI_0, atI_1, atI_2, atI_3, set_1, set_2, set_3, CDiv, CPow, CMul, List.length_set, Int.reduceToNat, Int.reduceLE, Int.reduceLT, Int.reducePow, Int.reduceNeg, Nat.reduceAdd, Nat.reduceLT, Nat.reduceLeDiff, Nat.reducePow, Nat.zero_add, or_true, true_or, gt_iff_lt, ge_iff_le, and_true, true_and, decide_eq_true_eq, if_true, Bool.false_eq_true, if_false]
    refine ⟨n, rfl, fun n0 n6 => ?_, fun h d H' hb => q2 _ _ _ (.vars h) d H' hb⟩
    refine ⟨n, pn, rows, rfl, hA, fun l1 l6 hrows H1 s1 => ?_, fun h d H' hb => q2 _ _ _ (.nodes ⟨n0, n6⟩ h) d H' hb, fun i r why l1 l6 hi ok b d H' hb => q2 _ _ _ (.row ⟨n0, n6⟩ ⟨l1, l6⟩ hi ok b) d H' hb⟩
    obtain ⟨as, hp1, hal, hrow⟩ := (hA.same s1).ex
    have el : (as.map V.ref).length = rows.length := by rw [List.length_map, hal]
    refine ⟨_, hp1, ?_⟩
    rw [el]
    refine ⟨_, pl, links, rfl, row_same hL s1, hsz, fun lk ok H2 s2 => ?_, fun h d H' hb => q2 _ _ _ (.links ⟨n0, n6⟩ ⟨l1, l6⟩ hrows h) d H' ⟨Same.tr s1 hb.1, hb.2⟩, fun i x lk hi ok b d H' hb => q2 _ _ _ (.link ⟨n0, n6⟩ ⟨l1, l6⟩ hrows lk hi ok b) d H' ⟨Same.tr s1 hb.1, hb.2⟩⟩
    have s3 := Same.tr s1 s2
    obtain ⟨ps, hps, hps2⟩ := hTb
    have pP : a.tG_Network_init ≠ p := fun z => by
      rw [z, hp] at hps
      cases hps
    refine ⟨_, _, _, s3 _ _ hp, T.C_Network, T.n_Network_variables, by decide, ?_⟩
    -- what is kept of H
    have k1 : ∀ o b u, b ≠ p → H b = some u → upd H2 p o b = some u := fun o b u hb e => by
      rw [upd_ne hb]
      exact s3 _ _ e
    have hpn : ∀ {b : Addr} {xs : List V}, RowAt H b xs → b ≠ p := fun {b xs} h z => by
      rw [z] at h
      rcases h with h | h <;> (rw [hp] at h; cases h)
    obtain ⟨as0, hp0, hal0, hrow0⟩ := hA.ex
    refine ⟨_, rfl, pn, as0, rows.map (fun r => r.map V.str), rfl, ?_, ?_, ?_, ?_, ?_, ?_⟩
    · exact hp0.imp (k1 _ _ _ (hpn hp0)) (k1 _ _ _ (hpn hp0))
    · rw [List.length_map, hal0]
    · rw [hal0]
      exact sizeLe (by omega)
    · intro i b row hb hw
      obtain ⟨r, hr2, rfl⟩ := map_at hw
      have z := hrow0 i r b hr2 hb
      exact z.imp (k1 _ _ _ (hpn z)) (k1 _ _ _ (hpn z))
    · exact ⟨ps, k1 _ _ _ pP hps, hps2⟩
    · intro H3 t bs kk tab ht1 ht2 hbl hbr
      refine ⟨_, _, _, kk p _ pP.symm upd_same, T.C_Network, T.n_Network_nodes, ?_, ?_⟩
      · exact Nat.lt_of_le_of_lt (length_putF _ _ _) (by decide)
      have tp : t ≠ p := fun z => by
        rw [z, upd_same] at ht1
        cases ht1
      have tP : t ≠ a.tG_Network_init := fun z => by
        obtain ⟨ps', e', _⟩ := tab
        rw [← z, ht2] at e'
        cases e'
      refine ⟨pl, links.map V.str, rfl, ?_, ?_⟩
      · have z : ∀ {o : HO}, H pl = some o → upd H3 p (HO.ins a.c_Network dx (putF "nodes" (V.ref t) (putF "variables" (V.int n) []))) pl = some o := fun {o} e => by
          rw [upd_ne (hpn hL)]
          refine kk _ _ (fun zz => ?_) (k1 _ _ _ (hpn hL) e)
          rw [zz] at hL
          rcases hL with hL | hL <;> (rw [hps] at hL; cases hL)
        exact hL.imp z z
      intro tl H4 s4 htl1 htl2
      refine ⟨_, _, _, s4 _ _ upd_same, T.C_Network, T.n_Network_links, ?_, ?_⟩
      · refine Nat.lt_of_le_of_lt (length_putF _ _ _) ?_
        have := length_putF "nodes" (V.ref t) (putF "variables" (V.int n) [])
        have := length_putF "variables" (V.int n) []
        simp only [List.length_nil] at this
        omega
      have tlp : tl ≠ p := fun z => by
        rw [z] at htl2
        have := s4 _ _ (upd_same (H := H3) (a := p) (o := HO.ins a.c_Network dx (putF "nodes" (V.ref t) (putF "variables" (V.int n) []))))
        rw [htl2] at this
        cases this
      have bp : ∀ {b : Addr} {xs : List V}, H3 b = some (.tup xs) → b ≠ p := fun {b xs} e z => by
        rw [z, kk p _ pP.symm upd_same] at e
        cases e
      have k4 : ∀ o b u, b ≠ p → H3 b = some u → upd H4 p o b = some u := fun o b u hb e => by
        rw [upd_ne hb]
        refine s4 _ _ ?_
        rw [upd_ne hb]
        exact e
      refine q1 ⟨⟨n0, n6⟩, ⟨l1, l6⟩, hrows, lk, ok⟩ _ ?_ ?_ ⟨dx, t, tl, bs, _, upd_same, ?_, ?_, ?_, ?_, ?_, ?_, ?_, k4 _ _ _ tp ht2, ?_, ?_, ?_⟩
      · intro b o hb1 hb2 e
        exact k4 _ _ _ hb2 (kk _ _ hb1 (k1 _ _ _ hb2 e))
      · obtain ⟨ps', e', t'⟩ := tab
        exact ⟨ps', k4 _ _ _ pP e', t'⟩
      · rw [look_put, if_neg (by decide +kernel), look_put, if_neg (by decide +kernel), look_put, if_pos rfl]
      · rw [look_put, if_neg (by decide +kernel), look_put, if_pos rfl]
      · rw [look_put, if_pos rfl]
      · rw [look_put, if_neg (by decide +kernel), look_put, if_neg (by decide +kernel), look_put, if_neg (by decide +kernel)]
        rfl
      · rw [look_put, if_neg (by decide +kernel), look_put, if_neg (by decide +kernel), look_put, if_neg (by decide +kernel)]
        rfl
      · rw [look_put, if_neg (by decide +kernel), look_put, if_neg (by decide +kernel), look_put, if_neg (by decide +kernel)]
        rfl
      · rw [look_put, if_neg (by decide +kernel), look_put, if_neg (by decide +kernel), look_put, if_neg (by decide +kernel)]
        rfl
      · rw [upd_ne tlp]
        exact htl2
      · rw [hbl, List.length_map]
      · intro i r b hr hb
        have z := hbr i b (r.map V.str) hb (by rw [List.getElem?_map, hr]; rfl)
        exact k4 _ _ _ (bp z) z
end
end AK
set_option Elab.async false
set_option linter.all false
set_option maxRecDepth 100000
set_option maxHeartbeats 4000000
namespace AK
open PySem PySem.Spec PyProof.Rows L2
theorem AN_len : AN.length = 26 := by decide +kernel
theorem idx_all : (List.range 7).all (fun L => (List.range L).all fun k => decide (Txt.index0 (tx (AN.take L)) (tx [AN.getD k 0]) = some k)) = true := by decide +kernel
theorem idx_AN {L k : Nat} {c : Nat} (hL : L ≤ 6) (h : (AN.take L)[k]? = some c) : Txt.index0 (tx (AN.take L)) (tx [c]) = some k := by
  have hk : k < L := by
    have := (List.getElem?_eq_some_iff.mp h).1
    rw [List.length_take] at this
    omega
  have z := List.all_eq_true.mp (List.all_eq_true.mp idx_all L (List.mem_range.mpr (by omega))) k (List.mem_range.mpr hk)
  have e : AN.getD k 0 = c := by
    rw [List.getElem?_take, if_pos hk] at h
    rw [List.getD_eq_getElem?_getD, h]
    rfl
  rw [e] at z
  exact of_decide_eq_true z
theorem one_of {x : Str} (h : x.length = 1) : ∃ c, x = tx [c] := by
  rw [← len_lt] at h
  obtain ⟨c, e⟩ := List.length_eq_one_iff.mp h
  exact ⟨c, by rw [← tx_lt x, e]⟩
section
variable {P : Program} {w : World} {K : PySem.W.Frag} {mg : Str → Option Value} {base : Heap} {a : Ads}
def spNN (C CN : Addr) : Sp := fun vs H Q E => ∃ (p : Addr) (n : Int) (rows : List (List Str)) (links : List Str) (x : Str), vs = [.ref p, .str x] ∧ NetAt C H p n rows links ∧ rows.length ≤ 6 ∧ x.length ≤ 100 ∧ (∀ c ∈ lt x, c < 1000) ∧
  (∀ (k c : Nat), x = tx [c] → (AN.take rows.length)[k]? = some c → Q (.int k) H) ∧ ((∀ c, x = tx [c] → ¬ c ∈ AN.take rows.length) → E (.ref CN) none H)
theorem ok_node_number (T : Txt K mg a) : FnOk P w K mg base (L2.CX P w) 3 a.a_node_number a.d_node_number ["network", "node"] (spNN a.c_Network a.c_NoNode) := by
  have G_Network_node_letters := ok_node_letters (P := P) (w := w) (base := base) T
  refine T.F_node_number.okX sc_node_number (fun vs H Q E h => ?_) (fun cdv A outer s H vs Q E hr h => ?_)
  · obtain ⟨_, _, _, _, _, rfl, _⟩ := h
    rfl
  · obtain ⟨p, n, rows, links, x, rfl, hN, h6, hx, hch, q1, q2⟩ := h
    obtain ⟨dx, tn, tl, as, fs, h1, h2, h3, h4, h5, hN'⟩ := hN.ex
    refine ⟨_, (pss_cons (ps_set (i := 2) sc_node_number.nd rfl (.inl rfl) (pe_meth0 (pv 0) T.C_Network T.M_Network_node_letters G_Network_node_letters (hr.mono (by first | decide | exact Nat.le_refl _ | omega)) T.b_Network_node_letters .nil pass0))
      (pss_cons (ps_if (PW.pt (pw_or (pt_cmpR op_ne (pe_callB call_len_str (by rfl) T.z_len PySem.boot_len (pa_cons (pv 1) pa_nil)) pe_int (nomark _)) (pw_or1 (pt_cmpR op_notIn_sign (pv 1) (pv 2) rfl))))
      (pss_one (ps_raise rfl (takes_of rfl rfl rfl rfl) (SkE.pmk_own1 PySem.F.excBase_ValueError T.N_NoNode T.g_NoNode T.X_NoNode.kp T.X_NoNode.raises (by rfl) (pe_joined (PJ.cons pe_str (PJ.cons (pe_fmt (pv 2)) (PJ.cons pe_str (PJ.cons (pe_fmtR (pv 1)) PJ.nil))))))))
      pss_nil)
      (pss_one (ps_ret (pe_bmS PySem.F.plainAttrs_str PySem.F.slot_str_index PySem.F.type_str_index (mt_indexX rfl (takes_of rfl rfl rfl rfl)) (pv 2) (pa_cons (pv 1) pa_nil)))))), ?_⟩
    simp only [tSeq, tAsg, tRet, tRetN, tDrop, tIfS, tNext, tNever, tOp, tUn, tVar, tC, rI0, rI, rU, tTest, tIf, tB, tAnd, tOr, tNot, tAndV, tOrV, tNotV, gName, gSub, gTupH, gCons, gNil, tYes, tCons, tNil, tLst, tTup, tCB, tCall, tMeth, tMake, tFld, sFld, tFor_c, tLc_c, iRng1, iList, iTup, iStr, iSeqB, iEnumB, tM1, tSl, tPart, tNoPart, rSlS, rIxS, tBM, rAppend, tIf, rEq, rNe, scal, hIx, hIxT, hIxB, hSet, hInt, hIntB, hLen, hLenT, hLenB, L2.start, wipe, List.map_cons, List.map_nil, List.set_cons_zero, List.set_cons_succ, List.set_nil, List.length_cons, List.length_nil, List.length_map, List.cons_append, List.nil_append, List.append_nil, List.replicate, List.getElem?_cons_zero, List.getElem?_cons_succ, Option.some.injEq, V.int.injEq, V.bl.injEq, V.ref.injEq, V.str.injEq, List.cons.injEq, exists_eq_left', exists_eq_left, exists_and_left, and_assoc, upd_same, upd_upd, HO.lst.injEq, HO.tup.injEq, atI_0, atI_1, atI_2, atI_3, set_1, set_2, set_3, CDiv, CPow, CMul, List.length_set, Int.reduceToNat, Int.reduceLE, Int.reduceLT, Int.reducePow, Int.reduceNeg, Nat.reduceAdd, Nat.reduceLT, Nat.reduceLeDiff, Nat.reducePow, Nat.zero_add, or_true, true_or, gt_iff_lt, ge_iff_le, and_true, true_and, decide_eq_true_eq, if_true, Bool.false_eq_true, if_false]
    refine ⟨dx, fs, h1, h5, p, n, rows, links, rfl, hN, ?_⟩
    have ll : (tx (AN.take rows.length)).length ≤ 26 := by
      rw [len_tx, List.length_take, AN_len]
      omega
    have out : (∀ c, x = tx [c] → ¬ c ∈ AN.take rows.length) → tJs [tC (V.str "no node of "), tFmt (tVar 2), tC (V.str ": "), tFmtR (tVar 1)] Str.empty [some (V.ref p), some (V.str x), some (V.str (tx (AN.take rows.length)))] H fun out H1 => E (.ref a.c_NoNode) none H1 := by
      intro h
      have l1 : (Str.empty ++ ("no node of " : Str)).length = 11 := by decide +kernel
      have la : ∀ y z : Str, (y ++ z).length = y.length + z.length := fun y z => by
        show (y.cps ++ z.cps).size = _
        rw [Array.size_append]
        rfl
      have l2 : (": " : Str).length = 2 := by decide +kernel
      have lr : (reprText x).length ≤ 10 * x.length + 2 := StrLaws.reprText_len x fun c hc => Nat.lt_of_lt_of_le (hch c hc) (by decide)
      refine ⟨_, rfl, by rw [l1]; exact sizeLe (by omega), ?_⟩
      refine ⟨_, rfl, .inl ⟨_, rfl, sizeLe (by omega), ?_⟩⟩
      refine ⟨_, rfl, by rw [la, l1]; exact sizeLe (by omega), ?_⟩
      refine ⟨_, rfl, by rw [la, la, l1, l2]; exact sizeLe (by omega), ?_⟩
      refine ⟨_, rfl, .inl ⟨_, rfl, Nat.le_trans (show _ ≤ 1002 by omega) (by decide), ?_⟩⟩
      refine ⟨_, rfl, by rw [la, la, la, l1, l2]; exact Nat.le_trans (show _ ≤ 2000 by omega) (by decide), ?_⟩
      exact q2 h
    show x.length ≤ sizeLine ∧ _
    refine ⟨sizeLe (by omega), ?_⟩
    by_cases e : x.length = 1
    · obtain ⟨c, rfl⟩ := one_of e
      rw [decide_eq_true (by rw [e]; rfl)]
      refine iteF ⟨c, rfl, _, rfl, ?_⟩
      rw [show (tx (AN.take rows.length)).cps.toList = AN.take rows.length from rfl]
      by_cases hm : c ∈ AN.take rows.length
      · rw [decide_eq_true hm]
        obtain ⟨k, hk, ek⟩ := List.mem_iff_getElem.mp hm
        have ek' : (AN.take rows.length)[k]? = some c := by rw [List.getElem?_eq_getElem hk, ek]
        have z := idx_AN h6 ek'
        refine iteF ⟨_, rfl, rfl, _, rfl, _, _, rfl, rfl, fun k2 e2 => ?_, fun e2 => ?_⟩
        · rw [z] at e2
          cases e2
          exact q1 k c rfl ek'
        · rw [z] at e2
          cases e2
      · rw [decide_eq_false hm]
        refine iteT (out fun c' e' => ?_)
        have := tx_inj e'
        cases this
        exact hm
    · rw [decide_eq_false (fun z => e (by exact_mod_cast z))]
      refine iteT (out fun c' e' => ?_)
      exact absurd (by rw [e']; rfl) e
def spMs (C CN : Addr) : Sp := fun vs H Q E => ∃ (p : Addr) (n : Int) (rows : List (List Str)) (links : List Str) (k c : Nat) (r : List Str), vs = [.ref p, .str (tx [c])] ∧ NetAt C H p n rows links ∧ rows.length ≤ 6 ∧ c < 1000 ∧ (AN.take rows.length)[k]? = some c ∧ rows[k]? = some r ∧
  ∀ t, H t = some (.tup (r.map V.str)) → Q (.ref t) H
theorem ok_messages (T : Txt K mg a) : FnOk P w K mg base (L2.CX P w) 4 a.a_Network_messages a.d_Network_messages ["self", "node"] (spMs a.c_Network a.c_NoNode) := by
  have G_node_number := ok_node_number (P := P) (w := w) (base := base) T
  refine T.F_Network_messages.okX sc_Network_messages (fun vs H Q E h => ?_) (fun cdv A outer s H vs Q E hr h => ?_)
  · obtain ⟨_, _, _, _, _, _, _, rfl, _⟩ := h
    rfl
  · obtain ⟨p, n, rows, links, k, c, r, rfl, hN, h6, hc, hk, hr2, q⟩ := h
    obtain ⟨dx, tn, tl, as, fs, h1, h2, h3, h4, h5, h6', h7, h8, h9, h10, h11, h12⟩ := hN.ex
    refine ⟨_, (pss_one (ps_ret (pe_ix ixHT (pe_fld (pv 0) rfl) (pe_call G_node_number (hr.mono (by first | decide | exact Nat.le_refl _ | omega)) (by rfl) T.g_node_number T.F_node_number.kp T.b_node_number .nil (passes_call (E := E) (takes_of rfl rfl rfl rfl) (fun _ _ _ _ z => z)) (pa_cons (pv 0) (pa_cons (pv 1) pa_nil))) (fun _ _ => rfl)))), ?_⟩
    simp only [tSeq, tAsg, tRet, tRetN, tDrop, tIfS, tNext, tNever, tOp, tUn, tVar, tC, rI0, rI, rU, tTest, tIf, tB, tAnd, tOr, tNot, tAndV, tOrV, tNotV, gName, gSub, gTupH, gCons, gNil, tYes, tCons, tNil, tLst, tTup, tCB, tCall, tMeth, tMake, tFld, sFld, tFor_c, tLc_c, iRng1, iList, iTup, iStr, iSeqB, iEnumB, tM1, tSl, tPart, tNoPart, rSlS, rIxS, tBM, rAppend, tIf, rEq, rNe, scal, hIx, hIxT, hIxB, hSet, hInt, hIntB, hLen, hLenT, hLenB, L2.start, wipe, List.map_cons, List.map_nil, List.set_cons_zero, List.set_cons_succ, List.set_nil, List.length_cons, List.length_nil, List.length_map, List.cons_append, List.nil_append, List.append_nil, List.replicate, List.getElem?_cons_zero, List.getElem?_cons_succ, Option.some.injEq, V.int.injEq, V.bl.injEq, V.ref.injEq, V.str.injEq, List.cons.injEq, exists_eq_left', exists_eq_left, exists_and_left, and_assoc, upd_same, upd_upd, HO.lst.injEq, HO.tup.injEq, atI_0, atI_1, atI_2, atI_3, set_1, set_2, set_3, CDiv, CPow, CMul, List.length_set, Int.reduceToNat, Int.reduceLE, Int.reduceLT, Int.reducePow, Int.reduceNeg, Nat.reduceAdd, Nat.reduceLT, Nat.reduceLeDiff, Nat.reducePow, Nat.zero_add, or_true, true_or, gt_iff_lt, ge_iff_le, and_true, true_and, decide_eq_true_eq, if_true, Bool.false_eq_true, if_false]
    refine ⟨_, _, _, h1, T.C_Network, T.n_Network_nodes, _, h3, p, n, rows, links, tx [c], rfl, hN, h6, by show 1 ≤ 100; omega, fun y hy => ?_, fun k2 c2 e2 hk2 => ?_, fun hno => ?_⟩
    · rw [lt_tx] at hy
      rw [List.mem_singleton.mp hy]
      exact hc
    · cases tx_inj e2
      have hkk : k2 = k := by
        have z1 := idx_AN h6 hk
        have z2 := idx_AN h6 hk2
        rw [z1] at z2
        exact (Option.some.inj z2).symm
      subst hkk
      have hka : k2 < as.length := by
        rw [h11]
        exact (List.getElem?_eq_some_iff.mp hr2).1
      have ha : as[k2]? = some as[k2] := List.getElem?_eq_getElem hka
      refine ⟨tn, rfl, _, _, rfl, h9, _, atI_nat (by rw [List.getElem?_map, ha]; rfl), ?_⟩
      exact q _ (h12 k2 r _ hr2 ha)
    · exact absurd (List.mem_of_getElem? hk) (hno c rfl)
end
end AK
set_option Elab.async false
set_option linter.all false
set_option maxRecDepth 100000
set_option maxHeartbeats 4000000
namespace AK
open PySem PySem.Spec PyProof.Rows L2
section
variable {P : Program} {w : World} {K : PySem.W.Frag} {mg : Str → Option Value} {base : Heap} {a : Ads}
def spMask : Sp := fun vs H Q _ => ∃ (m : Nat), vs = [.str (pt m)] ∧ m < 256 ∧ ∀ H', Same H H' → Q (.int (m : Int)) H'
theorem ok_mask_of (T : Txt K mg a) : FnOk P w K mg base CX0 1 a.a_mask_of a.d_mask_of ["parity"] spMask := by
  refine T.F_mask_of.ok sc_mask_of (fun vs H Q E h => ?_) (fun cdv A outer s H vs Q E hr h => ?_)
  · obtain ⟨m, rfl, _⟩ := h
    rfl
  · obtain ⟨m, rfl, hm, q⟩ := h
    obtain ⟨h1, h2, h3⟩ := plB_of hm
    refine ⟨_, (pss_one (ps_ret (pe_callB (cr_sum rfl) (by rfl) T.z_sum (by decide +kernel) (pa_cons (pe_lc (own := [("letter", 1)]) (g := gName 1) (tt := tYes) (te := tOp (rI CPow fun i j => .int (i * 2 ^ j.toNat)) (tC (.int 1)) (tBMS K "str" (rIndexX (fun _ _ _ _ => False)) (tC (.str "abcdefgh")) (tCons (tVar 1) tNil)))  rfl sc_mask_of.nd (pi_str (pv 0)) (blkOk_by (own := [("letter", 1)]) (N := sc_mask_of_N) (sc := defScope s_mask_of) (by decide +kernel)) (fun _ _ _ _ _ => (pg_name (i := 1) sc_mask_of.nd rfl (.inl rfl))) (fun _ _ _ _ _ => pts_nil) (fun _ _ _ _ _ => by exact (pe_op op_shl pe_int (pe_bmS PySem.F.plainAttrs_str PySem.F.slot_str_index PySem.F.type_str_index (mt_indexX rfl takes0) (pe_glob (v := .str _) rfl T.m_PARITY_LETTERS ⟨_, rfl⟩) (pa_cons (pv 1) pa_nil))))) pa_nil)))), ?_⟩
    simp only [tSeq, tAsg, tRet, tRetN, tDrop, tIfS, tNext, tNever, tOp, tUn, tVar, tC, rI0, rI, rU, tTest, tIf, tB, tAnd, tOr, tNot, tAndV, tOrV, tNotV, gName, gSub, gTupH, gCons, gNil, tYes, tCons, tNil, tLst, tTup, tCB, tCall, tMeth, tMake, tFld, sFld, tFor_c, tLc_c, iRng1, iList, iTup, iStr, iSeqB, iEnumB, tM1, tSl, tPart, tNoPart, rSlS, rIxS, tBM, rAppend, tIf, rEq, rNe, scal, hIx, hIxT, hIxB, hSet, hInt, hIntB, hLen, hLenT, hLenB, L2.start, wipe, List.map_cons, List.map_nil, List.set_cons_zero, List.set_cons_succ, List.set_nil, List.length_cons, List.length_nil, List.length_map, List.cons_append, List.nil_append, List.append_nil, List.replicate, List.getElem?_cons_zero, List.getElem?_cons_succ, Option.some.injEq, V.int.injEq, V.bl.injEq, V.ref.injEq, V.str.injEq, List.cons.injEq, exists_eq_left', exists_eq_left, exists_and_left, and_assoc, upd_same, upd_upd, HO.lst.injEq, HO.tup.injEq, atI_0, atI_1, atI_2, atI_3, set_1, set_2, set_3, CDiv, CPow, CMul, List.length_set, Int.reduceToNat, Int.reduceLE, Int.reduceLT, Int.reducePow, Int.reduceNeg, Nat.reduceAdd, Nat.reduceLT, Nat.reduceLeDiff, Nat.reducePow, Nat.zero_add, or_true, true_or, gt_iff_lt, ge_iff_le, and_true, true_and, decide_eq_true_eq, if_true, Bool.false_eq_true, if_false]
    refine lcStr (fun i D H' => H' D = some (.lst ((((pl m).take i).map fun c => ((2 ^ (c - 97) : Nat) : Int)).map V.int)) ∧ Same H H') (fun D hD => ⟨upd_same, same_new hD⟩) ?_ ?_
    · rintro i c D H' hD hc ⟨eD, s1⟩
      have hc : (pl m)[i]? = some c := hc
      obtain ⟨c1, c2⟩ := h3 c (List.mem_of_getElem? hc)
      refine ⟨rfl, ?_⟩
      simp only [tSeq, tAsg, tRet, tRetN, tDrop, tIfS, tNext, tNever, tOp, tUn, tVar, tC, rI0, rI, rU, tTest, tIf, tB, tAnd, tOr, tNot, tAndV, tOrV, tNotV, gName, gSub, gTupH, gCons, gNil, tYes, tCons, tNil, tLst, tTup, tCB, tCall, tMeth, tMake, tFld, sFld, tFor_c, tLc_c, iRng1, iList, iTup, iStr, iSeqB, iEnumB, tM1, tSl, tPart, tNoPart, rSlS, rIxS, tBM, rAppend, tIf, rEq, rNe, scal, hIx, hIxT, hIxB, hSet, hInt, hIntB, hLen, hLenT, hLenB, L2.start, wipe, List.map_cons, List.map_nil, List.set_cons_zero, List.set_cons_succ, List.set_nil, List.length_cons, List.length_nil, List.length_map, List.cons_append, List.nil_append, List.append_nil, List.replicate, List.getElem?_cons_zero, List.getElem?_cons_succ, Option.some.injEq, V.int.injEq, V.bl.injEq, V.ref.injEq, V.str.injEq, List.cons.injEq, exists_eq_left', exists_eq_left, exists_and_left, and_assoc, upd_same, upd_upd, HO.lst.injEq, HO.tup.injEq, atI_0, atI_1, atI_2, atI_3, set_1, set_2, set_3, CDiv, CPow, CMul, List.length_set, Int.reduceToNat, Int.reduceLE, Int.reduceLT, Int.reducePow, Int.reduceNeg, Nat.reduceAdd, Nat.reduceLT, Nat.reduceLeDiff, Nat.reducePow, Nat.zero_add, or_true, true_or, gt_iff_lt, ge_iff_le, and_true, true_and, decide_eq_true_eq, if_true, Bool.false_eq_true, if_false]
      unfold tBMS rIndexX
      simp only [tSeq, tAsg, tRet, tRetN, tDrop, tIfS, tNext, tNever, tOp, tUn, tVar, tC, rI0, rI, rU, tTest, tIf, tB, tAnd, tOr, tNot, tAndV, tOrV, tNotV, gName, gSub, gTupH, gCons, gNil, tYes, tCons, tNil, tLst, tTup, tCB, tCall, tMeth, tMake, tFld, sFld, tFor_c, tLc_c, iRng1, iList, iTup, iStr, iSeqB, iEnumB, tM1, tSl, tPart, tNoPart, rSlS, rIxS, tBM, rAppend, tIf, rEq, rNe, scal, hIx, hIxT, hIxB, hSet, hInt, hIntB, hLen, hLenT, hLenB, L2.start, wipe, List.map_cons, List.map_nil, List.set_cons_zero, List.set_cons_succ, List.set_nil, List.length_cons, List.length_nil, List.length_map, List.cons_append, List.nil_append, List.append_nil, List.replicate, List.getElem?_cons_zero, List.getElem?_cons_succ, Option.some.injEq, V.int.injEq, V.bl.injEq, V.ref.injEq, V.str.injEq, List.cons.injEq, exists_eq_left', exists_eq_left, exists_and_left, and_assoc, upd_same, upd_upd, HO.lst.injEq, HO.tup.injEq, atI_0, atI_1, atI_2, atI_3, set_1, set_2, set_3, CDiv, CPow, CMul, List.length_set, Int.reduceToNat, Int.reduceLE, Int.reduceLT, Int.reducePow, Int.reduceNeg, Nat.reduceAdd, Nat.reduceLT, Nat.reduceLeDiff, Nat.reducePow, Nat.zero_add, or_true, true_or, gt_iff_lt, ge_iff_le, and_true, true_and, decide_eq_true_eq, if_true, Bool.false_eq_true, if_false]
      have ix := ix8 c1 c2
      refine ⟨rfl, fun k ek => ?_, fun ek => ?_⟩
      · rw [A8_tx, ix] at ek
        cases ek
        refine ⟨Int.natCast_nonneg _, by omega, by decide, _, eD, ?_, ?_, same_out s1 hD⟩
        · rw [List.length_map, List.length_map, List.length_take]
          exact small1000 (by have := pl_len m; omega)
        · rw [take_s hc, List.map_append, List.map_append, Int.toNat_natCast, Int.one_mul]
          rfl
      · rw [A8_tx, ix] at ek
        cases ek
    · rintro D H' hD ⟨eD, s1⟩
      refine ⟨D, _, rfl, SqL.of eD, ?_⟩
      rw [show (lt (pt m)).length = (pl m).length from rfl, List.take_of_length_le (Nat.le_refl _), ni_pow, h2]
      exact q H' s1
def spRem (K : PySem.W.Frag) : Sp := fun vs H Q _ => ∃ (p : Addr) (R : List Nat) (m : Nat), vs = [.ref p, .int (m : Int)] ∧ SqL K H p (ni R) ∧ Q (.int (rem R m : Nat)) H
theorem ok_remainder (T : Txt K mg a) : FnOk P w K mg base CX0 1 a.a_remainder a.d_remainder ["span", "mask"] (spRem K) := by
  refine T.F_remainder.ok sc_remainder (fun vs H Q E h => ?_) (fun cdv A outer s H vs Q E hr h => ?_)
  · obtain ⟨_, _, _, rfl, _⟩ := h
    rfl
  · obtain ⟨p, R, m, rfl, hS, q⟩ := h
    refine ⟨_, (pss_cons (ps_for PassesOwn.never rfl (pi_list (pv 0)) (pg_name (i := 2) sc_remainder.nd rfl (.inl rfl))
      (pss_one (ps_set (i := 1) sc_remainder.nd rfl (.inl rfl) (pe_callB (call_min2 rfl) (by rfl) T.z_min (by decide +kernel) (pa_cons (pv 1) (pa_cons (pe_op op_xor (pv 1) (pv 2)) pa_nil))))))
      (pss_one (ps_ret (pv 1)))), ?_⟩
    simp only [tSeq, tAsg, tRet, tRetN, tDrop, tIfS, tNext, tNever, tOp, tUn, tVar, tC, rI0, rI, rU, tTest, tIf, tB, tAnd, tOr, tNot, tAndV, tOrV, tNotV, gName, gSub, gTupH, gCons, gNil, tYes, tCons, tNil, tLst, tTup, tCB, tCall, tMeth, tMake, tFld, sFld, tFor_c, tLc_c, iRng1, iList, iTup, iStr, iSeqB, iEnumB, tM1, tSl, tPart, tNoPart, rSlS, rIxS, tBM, rAppend, tIf, rEq, rNe, scal, hIx, hIxT, hIxB, hSet, hInt, hIntB, hLen, hLenT, hLenB, L2.start, wipe, List.map_cons, List.map_nil, List.set_cons_zero, List.set_cons_succ, List.set_nil, List.length_cons, List.length_nil, List.length_map, List.cons_append, List.nil_append, List.append_nil, List.replicate, List.getElem?_cons_zero, List.getElem?_cons_succ, Option.some.injEq, V.int.injEq, V.bl.injEq, V.ref.injEq, V.str.injEq, List.cons.injEq, exists_eq_left', exists_eq_left, exists_and_left, and_assoc, upd_same, upd_upd, HO.lst.injEq, HO.tup.injEq, atI_0, atI_1, atI_2, atI_3, set_1, set_2, set_3, CDiv, CPow, CMul, List.length_set, Int.reduceToNat, Int.reduceLE, Int.reduceLT, Int.reducePow, Int.reduceNeg, Nat.reduceAdd, Nat.reduceLT, Nat.reduceLeDiff, Nat.reducePow, Nat.zero_add, or_true, true_or, gt_iff_lt, ge_iff_le, and_true, true_and, decide_eq_true_eq, if_true, Bool.false_eq_true, if_false]
    refine ⟨⟨_, hS⟩, ?_⟩
    refine forLst (xs := ni R) (fun i σ H' => ∃ (n : Nat) (v : Option V), σ = [some (.ref p), some (.int (n : Int)), v] ∧ H' = H ∧ rem R m = rem (R.drop i) n) ⟨m, none, rfl, rfl, rfl⟩ ?_ ?_ ?_
    · rintro i σ H' _ ⟨n, v, rfl, rfl, _⟩
      exact hS
    · rintro i x σ H' hx ⟨n, v, rfl, rfl, e⟩
      obtain ⟨r, hr2, rfl⟩ := ni_at hx
      rw [drop_at hr2] at e
      simp only [tSeq, tAsg, tRet, tRetN, tDrop, tIfS, tNext, tNever, tOp, tUn, tVar, tC, rI0, rI, rU, tTest, tIf, tB, tAnd, tOr, tNot, tAndV, tOrV, tNotV, gName, gSub, gTupH, gCons, gNil, tYes, tCons, tNil, tLst, tTup, tCB, tCall, tMeth, tMake, tFld, sFld, tFor_c, tLc_c, iRng1, iList, iTup, iStr, iSeqB, iEnumB, tM1, tSl, tPart, tNoPart, rSlS, rIxS, tBM, rAppend, tIf, rEq, rNe, scal, hIx, hIxT, hIxB, hSet, hInt, hIntB, hLen, hLenT, hLenB, L2.start, wipe, List.map_cons, List.map_nil, List.set_cons_zero, List.set_cons_succ, List.set_nil, List.length_cons, List.length_nil, List.length_map, List.cons_append, List.nil_append, List.append_nil, List.replicate, List.getElem?_cons_zero, List.getElem?_cons_succ, Option.some.injEq, V.int.injEq, V.bl.injEq, V.ref.injEq, V.str.injEq, List.cons.injEq, exists_eq_left', exists_eq_left, exists_and_left, and_assoc, upd_same, upd_upd, HO.lst.injEq, HO.tup.injEq, atI_0, atI_1, atI_2, atI_3, set_1, set_2, set_3, CDiv, CPow, CMul, List.length_set, Int.reduceToNat, Int.reduceLE, Int.reduceLT, Int.reducePow, Int.reduceNeg, Nat.reduceAdd, Nat.reduceLT, Nat.reduceLeDiff, Nat.reducePow, Nat.zero_add, or_true, true_or, gt_iff_lt, ge_iff_le, and_true, true_and, decide_eq_true_eq, if_true, Bool.false_eq_true, if_false]
      have ec : (if Builtin.bitXor (n : Int) (r : Int) < (n : Int) then Builtin.bitXor (n : Int) (r : Int) else (n : Int)) = ((cl r n : Nat) : Int) := by
        rw [xor_nat]
        unfold cl
        by_cases c : n ^^^ r < n
        · rw [if_pos c, if_pos (by exact_mod_cast c)]
        · rw [if_neg c, if_neg (fun z => c (by exact_mod_cast z))]
      rw [ec]
      exact ⟨cl r n, rfl, e⟩
    · rintro σ H' ⟨n, v, rfl, rfl, e⟩
      rw [ni_len, List.drop_of_length_le (Nat.le_refl _)] at e
      simp only [tSeq, tAsg, tRet, tRetN, tDrop, tIfS, tNext, tNever, tOp, tUn, tVar, tC, rI0, rI, rU, tTest, tIf, tB, tAnd, tOr, tNot, tAndV, tOrV, tNotV, gName, gSub, gTupH, gCons, gNil, tYes, tCons, tNil, tLst, tTup, tCB, tCall, tMeth, tMake, tFld, sFld, tFor_c, tLc_c, iRng1, iList, iTup, iStr, iSeqB, iEnumB, tM1, tSl, tPart, tNoPart, rSlS, rIxS, tBM, rAppend, tIf, rEq, rNe, scal, hIx, hIxT, hIxB, hSet, hInt, hIntB, hLen, hLenT, hLenB, L2.start, wipe, List.map_cons, List.map_nil, List.set_cons_zero, List.set_cons_succ, List.set_nil, List.length_cons, List.length_nil, List.length_map, List.cons_append, List.nil_append, List.append_nil, List.replicate, List.getElem?_cons_zero, List.getElem?_cons_succ, Option.some.injEq, V.int.injEq, V.bl.injEq, V.ref.injEq, V.str.injEq, List.cons.injEq, exists_eq_left', exists_eq_left, exists_and_left, and_assoc, upd_same, upd_upd, HO.lst.injEq, HO.tup.injEq, atI_0, atI_1, atI_2, atI_3, set_1, set_2, set_3, CDiv, CPow, CMul, List.length_set, Int.reduceToNat, Int.reduceLE, Int.reduceLT, Int.reducePow, Int.reduceNeg, Nat.reduceAdd, Nat.reduceLT, Nat.reduceLeDiff, Nat.reducePow, Nat.zero_add, or_true, true_or, gt_iff_lt, ge_iff_le, and_true, true_and, decide_eq_true_eq, if_true, Bool.false_eq_true, if_false]
      rw [e] at q
      exact q
def spSpanned (K : PySem.W.Frag) : Sp := fun vs H Q _ => ∃ (p b : Addr) (ms R : List Nat), vs = [.ref p, .ref b] ∧ SqL K H p (ni ms) ∧ (SqL K H b (ni R) ∨ SqT K H b (ni R)) ∧ R.length + ms.length ≤ 900 ∧
  ∀ D H', Same H H' → H D = none → H' D = some (.lst (ni (spn ms R))) → Q (.ref D) H'
theorem SqL.seq' {K : PySem.W.Frag} {H H' : Hp} {p : Addr} {xs : List V} (s : Same H H') (h : SqL K H p xs) : SqL K H' p xs := s.seq h
theorem ok_spanned (T : Txt K mg a) : FnOk P w K mg base CX0 2 a.a_spanned a.d_spanned ["masks", "span"] (spSpanned K) := by
  have G_remainder := ok_remainder (P := P) (w := w) (base := base) T
  refine FunD.ok0 T.F_spanned sc_spanned (fun vs H Q E h => ?_) (fun cdv A outer s H vs Q E hr h => ?_)
  · obtain ⟨_, _, _, _, rfl, _⟩ := h
    rfl
  · obtain ⟨p, b, ms, R, rfl, hS, hB, hl, q⟩ := h
    refine ⟨_, (pss_cons (ps_set (i := 2) sc_spanned.nd rfl (.inl rfl) (pe_callTy call_list_of (by rfl) T.z_list (by decide +kernel) (pa_cons (pv 1) pa_nil)))
      (pss_cons (ps_for PassesOwn.never rfl (pi_list (pv 0)) (pg_name (i := 3) sc_spanned.nd rfl (.inl rfl))
      (pss_cons (ps_set (i := 4) sc_spanned.nd rfl (.inl rfl) (pe_call G_remainder (hr.mono (by first | decide | exact Nat.le_refl _ | omega)) (by rfl) T.g_remainder T.F_remainder.kp T.b_remainder .nil pass0 (pa_cons (pv 2) (pa_cons (pv 3) pa_nil))))
      (pss_one (ps_if (pt_truth (pv 4) (by intro _; rfl))
      (pss_one (ps_expr (pe_bm PySem.F.plainAttrs_list PySem.F.slot_list_append PySem.F.type_list_append mt_append (pv 2) (pa_cons (pv 4) pa_nil))))
      pss_nil))))
      (pss_one (ps_ret (pv 2))))), ?_⟩
    simp only [tSeq, tAsg, tRet, tRetN, tDrop, tIfS, tNext, tNever, tOp, tUn, tVar, tC, rI0, rI, rU, tTest, tIf, tB, tAnd, tOr, tNot, tAndV, tOrV, tNotV, gName, gSub, gTupH, gCons, gNil, tYes, tCons, tNil, tLst, tTup, tCB, tCall, tMeth, tMake, tFld, sFld, tFor_c, tLc_c, iRng1, iList, iTup, iStr, iSeqB, iEnumB, tM1, tSl, tPart, tNoPart, rSlS, rIxS, tBM, rAppend, tIf, rEq, rNe, scal, hIx, hIxT, hIxB, hSet, hInt, hIntB, hLen, hLenT, hLenB, L2.start, wipe, List.map_cons, List.map_nil, List.set_cons_zero, List.set_cons_succ, List.set_nil, List.length_cons, List.length_nil, List.length_map, List.cons_append, List.nil_append, List.append_nil, List.replicate, List.getElem?_cons_zero, List.getElem?_cons_succ, Option.some.injEq, V.int.injEq, V.bl.injEq, V.ref.injEq, V.str.injEq, List.cons.injEq, exists_eq_left', exists_eq_left, exists_and_left, and_assoc, upd_same, upd_upd, HO.lst.injEq, HO.tup.injEq, atI_0, atI_1, atI_2, atI_3, set_1, set_2, set_3, CDiv, CPow, CMul, List.length_set, Int.reduceToNat, Int.reduceLE, Int.reduceLT, Int.reducePow, Int.reduceNeg, Nat.reduceAdd, Nat.reduceLT, Nat.reduceLeDiff, Nat.reducePow, Nat.zero_add, or_true, true_or, gt_iff_lt, ge_iff_le, and_true, true_and, decide_eq_true_eq, if_true, Bool.false_eq_true, if_false]
    refine ⟨_, hB, fun D hD => ⟨⟨_, (same_new hD).seq hS⟩, ?_⟩⟩
    refine forLst (xs := ni ms) (fun i σ H' => ∃ (v w : Option V), σ = [some (.ref p), some (.ref b), some (.ref D), v, w] ∧ Same H H' ∧ H' D = some (.lst (ni (spn (ms.take i) R)))) ⟨none, none, rfl, same_new hD, upd_same⟩ ?_ ?_ ?_
    · rintro i σ H' _ ⟨v, w, rfl, s1, _⟩
      exact s1.seq hS
    · rintro i x σ H' hx ⟨v, w, rfl, s1, eD⟩
      obtain ⟨m, hm, rfl⟩ := ni_at hx
      simp only [tSeq, tAsg, tRet, tRetN, tDrop, tIfS, tNext, tNever, tOp, tUn, tVar, tC, rI0, rI, rU, tTest, tIf, tB, tAnd, tOr, tNot, tAndV, tOrV, tNotV, gName, gSub, gTupH, gCons, gNil, tYes, tCons, tNil, tLst, tTup, tCB, tCall, tMeth, tMake, tFld, sFld, tFor_c, tLc_c, iRng1, iList, iTup, iStr, iSeqB, iEnumB, tM1, tSl, tPart, tNoPart, rSlS, rIxS, tBM, rAppend, tIf, rEq, rNe, scal, hIx, hIxT, hIxB, hSet, hInt, hIntB, hLen, hLenT, hLenB, L2.start, wipe, List.map_cons, List.map_nil, List.set_cons_zero, List.set_cons_succ, List.set_nil, List.length_cons, List.length_nil, List.length_map, List.cons_append, List.nil_append, List.append_nil, List.replicate, List.getElem?_cons_zero, List.getElem?_cons_succ, Option.some.injEq, V.int.injEq, V.bl.injEq, V.ref.injEq, V.str.injEq, List.cons.injEq, exists_eq_left', exists_eq_left, exists_and_left, and_assoc, upd_same, upd_upd, HO.lst.injEq, HO.tup.injEq, atI_0, atI_1, atI_2, atI_3, set_1, set_2, set_3, CDiv, CPow, CMul, List.length_set, Int.reduceToNat, Int.reduceLE, Int.reduceLT, Int.reducePow, Int.reduceNeg, Nat.reduceAdd, Nat.reduceLT, Nat.reduceLeDiff, Nat.reducePow, Nat.zero_add, or_true, true_or, gt_iff_lt, ge_iff_le, and_true, true_and, decide_eq_true_eq, if_true, Bool.false_eq_true, if_false]
      have hlen : (spn (ms.take i) R).length ≤ 900 := by
        have := spn_len (ms.take i) R
        rw [List.length_take] at this
        omega
      refine ⟨D, _, m, rfl, SqL.of eD, ?_⟩
      rw [spn_take R hm]
      unfold sp
      by_cases hz : rem (spn (ms.take i) R) m = 0
      · rw [hz]
        refine ⟨false, rfl, ?_⟩
        rw [if_neg (by decide), if_pos rfl]
        exact ⟨s1, eD⟩
      · refine ⟨true, (bne_iff_ne.mpr (by exact_mod_cast hz)).symm, ?_⟩
        rw [if_pos rfl, if_neg hz]
        refine ⟨.inl ⟨rfl, _, SqL.of eD⟩, _, eD, ?_, same_out s1 hD, ni_snoc _ _⟩
        rw [ni_len]
        exact small1000 (by omega)
    · rintro σ H' ⟨v, w, rfl, s1, eD⟩
      rw [ni_len, List.take_of_length_le (Nat.le_refl _)] at eD
      simp only [tSeq, tAsg, tRet, tRetN, tDrop, tIfS, tNext, tNever, tOp, tUn, tVar, tC, rI0, rI, rU, tTest, tIf, tB, tAnd, tOr, tNot, tAndV, tOrV, tNotV, gName, gSub, gTupH, gCons, gNil, tYes, tCons, tNil, tLst, tTup, tCB, tCall, tMeth, tMake, tFld, sFld, tFor_c, tLc_c, iRng1, iList, iTup, iStr, iSeqB, iEnumB, tM1, tSl, tPart, tNoPart, rSlS, rIxS, tBM, rAppend, tIf, rEq, rNe, scal, hIx, hIxT, hIxB, hSet, hInt, hIntB, hLen, hLenT, hLenB, L2.start, wipe, List.map_cons, List.map_nil, List.set_cons_zero, List.set_cons_succ, List.set_nil, List.length_cons, List.length_nil, List.length_map, List.cons_append, List.nil_append, List.append_nil, List.replicate, List.getElem?_cons_zero, List.getElem?_cons_succ, Option.some.injEq, V.int.injEq, V.bl.injEq, V.ref.injEq, V.str.injEq, List.cons.injEq, exists_eq_left', exists_eq_left, exists_and_left, and_assoc, upd_same, upd_upd, HO.lst.injEq, HO.tup.injEq, atI_0, atI_1, atI_2, atI_3, set_1, set_2, set_3, CDiv, CPow, CMul, List.length_set, Int.reduceToNat, Int.reduceLE, Int.reduceLT, Int.reducePow, Int.reduceNeg, Nat.reduceAdd, Nat.reduceLT, Nat.reduceLeDiff, Nat.reducePow, Nat.zero_add, or_true, true_or, gt_iff_lt, ge_iff_le, and_true, true_and, decide_eq_true_eq, if_true, Bool.false_eq_true, if_false]
      exact q D H' s1 hD eD
end
end AK
set_option Elab.async false
set_option linter.all false
set_option maxRecDepth 100000
set_option maxHeartbeats 4000000
namespace AK
open PySem PySem.Spec PyProof.Rows L2
section
variable {P : Program} {w : World} {K : PySem.W.Frag} {mg : Str → Option Value} {base : Heap} {a : Ads}
/-! the pool -/
def poolNum (z : Int) : Int := if 0 ≤ z then 2 * z else -2 * z - 1
theorem poolNum_nn (z : Int) : 0 ≤ poolNum z := by
  unfold poolNum
  split <;> omega
def spPoolP : Prop := True
structure Pool (G H : Hp) (p : Addr) : Prop where
  le : Same G H
  out : G p = none
  ex : ∃ (c : Addr) (cells : List Int) (i d x : Int), H p = some (.lst [.ref c, .int i, .int d, .int x]) ∧ G c = some (.lst (cells.map V.int)) ∧ (∀ z ∈ cells, 0 ≤ z) ∧ 0 ≤ i ∧ 0 ≤ d ∧ 0 ≤ x ∧ x < 2147483647
def spPool (K : PySem.W.Frag) : Sp := fun vs H Q _ => ∃ (a : Addr) (ns : List Int), vs = [.ref a] ∧ SqL K H a (ns.map V.int) ∧ ns.length ≤ 63 ∧ ∀ G H' p, Same H G → H p = none → Pool G H' p → Q (.ref p) H'
theorem ok_law_pool {f : Addr} {fd : FuncData} (F : Fun K "_law_pool" "_law_pool" s_law_pool f fd) : FnOk P w K mg base CX0 1 f fd ["script"] (spPool K) := by
  refine F.ok sc_law_pool (fun vs H Q E h => ?_) (fun cdv A outer s H vs Q E hr h => ?_)
  · obtain ⟨a, ns, rfl, _⟩ := h
    rfl
  · obtain ⟨a, ns, rfl, hS, hl, q⟩ := h
    refine ⟨_, (pss_one (ps_ret (pe_lst (pa_cons (pe_lc (own := [("cell", 1)]) (g := gName 1) (tt := tYes) rfl sc_law_pool.nd (pi_list (pv 0)) (blkOk_by (own := [("cell", 1)]) (N := sc_law_pool_N) (sc := defScope s_law_pool) (by decide +kernel)) (fun _ _ _ _ _ => (pg_name (i := 1) sc_law_pool.nd rfl (.inl rfl))) (fun _ _ _ _ _ => pts_nil) (fun _ _ _ _ _ => (pe_ifExp (pt_cmpR op_ge (pv 1) pe_int (nomark _)) (pe_op op_mul pe_int (pv 1)) (pe_op op_sub (pe_op op_mul (pe_un un_neg pe_int) (pv 1)) pe_int)))) (pa_cons pe_int (pa_cons pe_int (pa_cons pe_int pa_nil))))))), ?_⟩
    refine ⟨_, rfl, a, rfl, ⟨_, hS⟩, fun D hD => ?_⟩
    refine lc_list (K := K) (a := a) (xs := ns.map V.int) (fun i H' => ∃ o, H' = upd H D o ∧ o = .lst (((ns.take i).map poolNum).map V.int)) ⟨_, rfl, rfl⟩ ?_ ?_ ?_
    · rintro i H' _ ⟨o, rfl, _⟩
      exact (same_new hD).seq hS
    · rintro i x H' hx ⟨o, rfl, rfl⟩
      obtain ⟨z, hz, rfl⟩ := map_at hx
      refine ⟨rfl, ?_⟩
      simp only [tSeq, tAsg, tRet, tRetN, tDrop, tIfS, tNext, tNever, tOp, tUn, tVar, tC, rI0, rI, rU, tTest, tIf, tB, tAnd, tOr, tNot, tAndV, tOrV, tNotV, gName, gSub, gTupH, gCons, gNil, tYes, tCons, tNil, tLst, tTup, tCB, tCall, tMeth, tMake, tFld, sFld, tFor_c, tLc_c, iRng1, iList, iTup, iStr, iSeqB, iEnumB, tM1, tSl, tPart, tNoPart, rSlS, rIxS, tBM, rAppend, tIf, rEq, rNe, scal, hIx, hIxT, hIxB, hSet, hInt, hIntB, hLen, hLenT, hLenB, L2.start, wipe, List.map_cons, List.map_nil, List.set_cons_zero, List.set_cons_succ, List.set_nil, List.length_cons, List.length_nil, List.length_map, List.cons_append, List.nil_append, List.append_nil, List.replicate, List.getElem?_cons_zero, List.getElem?_cons_succ, Option.some.injEq, V.int.injEq, V.bl.injEq, V.ref.injEq, V.str.injEq, List.cons.injEq, exists_eq_left', exists_eq_left, exists_and_left, and_assoc, upd_same, upd_upd, HO.lst.injEq, HO.tup.injEq, atI_0, atI_1, atI_2, atI_3, set_1, set_2, set_3, CDiv, CPow, CMul, List.length_set, Int.reduceToNat, Int.reduceLE, Int.reduceLT, Int.reducePow, Int.reduceNeg, Nat.reduceAdd, Nat.reduceLT, Nat.reduceLeDiff, Nat.reducePow, Nat.zero_add, or_true, true_or, gt_iff_lt, ge_iff_le, and_true, true_and, decide_eq_true_eq, if_true, Bool.false_eq_true, if_false, *]
      have e1 : ((ns.take (i + 1)).map poolNum).map V.int = ((ns.take i).map poolNum).map V.int ++ [V.int (poolNum z)] := by
        rw [take_s hz, List.map_append, List.map_append]
        rfl
      have e2 : (((ns.take i).map poolNum).map V.int).length < sizeLine := by
        rw [List.length_map, List.length_map, List.length_take]
        exact small1000 (by omega)
      refine ite2 (fun c => ?_) (fun c => ?_)
      · refine ⟨by rw [List.length_map, List.length_map] at e2; exact e2, _, rfl, ?_⟩
        rw [e1]
        unfold poolNum
        rw [if_pos c]
      · refine ⟨by rw [List.length_map, List.length_map] at e2; exact e2, _, rfl, ?_⟩
        rw [e1]
        unfold poolNum
        rw [if_neg c]
    · rintro H' ⟨o, rfl, rfl⟩
      simp only [tSeq, tAsg, tRet, tRetN, tDrop, tIfS, tNext, tNever, tOp, tUn, tVar, tC, rI0, rI, rU, tTest, tIf, tB, tAnd, tOr, tNot, tAndV, tOrV, tNotV, gName, gSub, gTupH, gCons, gNil, tYes, tCons, tNil, tLst, tTup, tCB, tCall, tMeth, tMake, tFld, sFld, tFor_c, tLc_c, iRng1, iList, iTup, iStr, iSeqB, iEnumB, tM1, tSl, tPart, tNoPart, rSlS, rIxS, tBM, rAppend, tIf, rEq, rNe, scal, hIx, hIxT, hIxB, hSet, hInt, hIntB, hLen, hLenT, hLenB, L2.start, wipe, List.map_cons, List.map_nil, List.set_cons_zero, List.set_cons_succ, List.set_nil, List.length_cons, List.length_nil, List.length_map, List.cons_append, List.nil_append, List.append_nil, List.replicate, List.getElem?_cons_zero, List.getElem?_cons_succ, Option.some.injEq, V.int.injEq, V.bl.injEq, V.ref.injEq, V.str.injEq, List.cons.injEq, exists_eq_left', exists_eq_left, exists_and_left, and_assoc, upd_same, upd_upd, HO.lst.injEq, HO.tup.injEq, atI_0, atI_1, atI_2, atI_3, set_1, set_2, set_3, CDiv, CPow, CMul, List.length_set, Int.reduceToNat, Int.reduceLE, Int.reduceLT, Int.reducePow, Int.reduceNeg, Nat.reduceAdd, Nat.reduceLT, Nat.reduceLeDiff, Nat.reducePow, Nat.zero_add, or_true, true_or, gt_iff_lt, ge_iff_le, and_true, true_and, decide_eq_true_eq, if_true, Bool.false_eq_true, if_false, *]
      refine ⟨by show 3 + 1 ≤ sizeLine; decide, fun p hp => ?_⟩
      have hpD : p ≠ D := (ne_of_none upd_same hp).symm
      have hpn : H p = none := by rw [upd_ne hpD] at hp; exact hp
      refine q (upd H D (.lst ((ns.map poolNum).map V.int))) _ p (same_new hD) hpn ⟨?_, ?_, D, ns.map poolNum, 0, 0, 17, upd_same, upd_same, ?_, by decide, by decide, by decide, by decide⟩
      · rw [List.take_of_length_le (Nat.le_refl _)]
        exact same_new (by rw [upd_ne hpD]; exact hpn)
      · rw [upd_ne hpD]
        exact hpn
      · intro z hz
        obtain ⟨y, _, rfl⟩ := List.mem_map.mp hz
        exact poolNum_nn y
/-! a draw -/
def spTake (C : Int → Prop) : Sp := fun vs H Q _ => ∃ (p : Addr) (m : Int) (c : Addr) (cells : List Int) (i d x : Int), vs = [.ref p, .int m] ∧ 0 < m ∧ m < 1073741824 ∧
  H p = some (.lst [.ref c, .int i, .int d, .int x]) ∧ H c = some (.lst (cells.map V.int)) ∧ c ≠ p ∧ (∀ z ∈ cells, 0 ≤ z) ∧ 0 ≤ i ∧ 0 ≤ d ∧ 0 ≤ x ∧ x < 2147483647 ∧ C d ∧
  ∀ r i' d' x', 0 ≤ r → r < m → 0 ≤ i' → 0 ≤ d' → 0 ≤ x' → x' < 2147483647 → Q (.int r) (upd H p (.lst [.ref c, .int i', .int d', .int x']))
theorem ok_law_take0 (T : Txt K mg a) : FnOk P w K mg base CX0 1 a.a_law_take a.d_law_take ["pool", "many"] (spTake (fun d => 0 < d)) := by
  refine T.F_law_take.ok sc_law_take (fun vs H Q E h => ?_) (fun cdv A outer s H vs Q E hr h => ?_)
  · obtain ⟨p, m, c, cells, i, d, x, rfl, _⟩ := h
    rfl
  · obtain ⟨p, m, c, cells, i, d, x, rfl, hm, hm2, hp, hc, hcp, hcl, hi, hd, hx, hx2, hP, q⟩ := h
    refine ⟨_, (pss_cons (ps_if (pt_cmpR op_gt (pe_ix ixH (pv 0) pe_int (fun _ _ => rfl)) pe_int (nomark _))
      (pss_cons (ps_set (i := 2) sc_law_take.nd rfl (.inl rfl) (pe_op op_mod (pe_callTy callInt (by rfl) T.z_int (by decide +kernel) (pa_cons (pe_ix ixH (pv 0) pe_int (fun _ _ => rfl)) pa_nil)) (pv 1)))
      (pss_cons (ps_asg (pe_op op_fdiv (pe_ix ixH (pv 0) pe_int (fun _ _ => rfl)) (pv 1)) (pg_sub (pv 0) pe_int setH))
      (pss_one (ps_ret (pv 2)))))
      pss_nil)
      pss_never), ?_⟩
    simp only [tSeq, tAsg, tRet, tRetN, tDrop, tIfS, tNext, tNever, tOp, tUn, tVar, tC, rI0, rI, rU, tTest, tIf, tB, tAnd, tOr, tNot, tAndV, tOrV, tNotV, gName, gSub, gTupH, gCons, gNil, tYes, tCons, tNil, tLst, tTup, tCB, tCall, tMeth, tMake, tFld, sFld, tFor_c, tLc_c, iRng1, iList, iTup, iStr, iSeqB, iEnumB, tM1, tSl, tPart, tNoPart, rSlS, rIxS, tBM, rAppend, tIf, rEq, rNe, scal, hIx, hIxT, hIxB, hSet, hInt, hIntB, hLen, hLenT, hLenB, L2.start, wipe, List.map_cons, List.map_nil, List.set_cons_zero, List.set_cons_succ, List.set_nil, List.length_cons, List.length_nil, List.length_map, List.cons_append, List.nil_append, List.append_nil, List.replicate, List.getElem?_cons_zero, List.getElem?_cons_succ, Option.some.injEq, V.int.injEq, V.bl.injEq, V.ref.injEq, V.str.injEq, List.cons.injEq, exists_eq_left', exists_eq_left, exists_and_left, and_assoc, upd_same, upd_upd, HO.lst.injEq, HO.tup.injEq, atI_0, atI_1, atI_2, atI_3, set_1, set_2, set_3, CDiv, CPow, CMul, List.length_set, Int.reduceToNat, Int.reduceLE, Int.reduceLT, Int.reducePow, Int.reduceNeg, Nat.reduceAdd, Nat.reduceLT, Nat.reduceLeDiff, Nat.reducePow, Nat.zero_add, or_true, true_or, gt_iff_lt, ge_iff_le, and_true, true_and, decide_eq_true_eq, if_true, Bool.false_eq_true, if_false, *]
    exact q _ _ _ _ (Int.emod_nonneg _ (by omega)) (Int.emod_lt_of_pos _ hm) hi (Int.ediv_nonneg hd (by omega)) hx hx2
theorem ok_law_take (T : Txt K mg a) : FnOk P w K mg base CX0 2 a.a_law_take a.d_law_take ["pool", "many"] (spTake (fun _ => True)) := by
  have G_law_take : FnOk P w K mg base CX0 1 a.a_law_take a.d_law_take ["pool", "many"] (spTake (fun d => 0 < d)) := ok_law_take0 T
  refine T.F_law_take.ok sc_law_take (fun vs H Q E h => ?_) (fun cdv A outer s H vs Q E hr h => ?_)
  · obtain ⟨p, m, c, cells, i, d, x, rfl, _⟩ := h
    rfl
  · obtain ⟨p, m, c, cells, i, d, x, rfl, hm, hm2, hp, hc, hcp, hcl, hi, hd, hx, hx2, hP, q⟩ := h
    refine ⟨_, (pss_cons (ps_if (pt_cmpR op_gt (pe_ix ixH (pv 0) pe_int (fun _ _ => rfl)) pe_int (nomark _))
      (pss_cons (ps_set (i := 2) sc_law_take.nd rfl (.inl rfl) (pe_op op_mod (pe_callTy callInt (by rfl) T.z_int (by decide +kernel) (pa_cons (pe_ix ixH (pv 0) pe_int (fun _ _ => rfl)) pa_nil)) (pv 1)))
      (pss_cons (ps_asg (pe_op op_fdiv (pe_ix ixH (pv 0) pe_int (fun _ _ => rfl)) (pv 1)) (pg_sub (pv 0) pe_int setH))
      (pss_one (ps_ret (pv 2)))))
      pss_nil)
      (pss_cons (ps_set (i := 3) sc_law_take.nd rfl (.inl rfl) pe_int)
      (pss_cons (ps_if (pt_cmpR op_lt (pe_ix ixH (pv 0) pe_int (fun _ _ => rfl)) (pe_callB callLen (by rfl) T.z_len PySem.boot_len (pa_cons (pe_ix ixH (pv 0) pe_int (fun _ _ => rfl)) pa_nil)) (nomark _))
      (pss_one (ps_set (i := 3) sc_law_take.nd rfl (.inl rfl) (pe_ix ixH (pe_ix ixH (pv 0) pe_int (fun _ _ => rfl)) (pe_ix ixH (pv 0) pe_int (fun _ _ => rfl)) (fun _ _ => rfl))))
      pss_nil)
      (pss_cons (ps_asg (pe_op op_add (pe_ix ixH (pv 0) pe_int (fun _ _ => rfl)) pe_int) (pg_sub (pv 0) pe_int setH))
      (pss_cons (ps_if (pt_cmpR op_ge (pv 3) (pe_op powH pe_int pe_int) (nomark _))
      (pss_cons (ps_asg (pe_op op_fdiv (pv 3) pe_int) (pg_sub (pv 0) pe_int setH))
      (pss_one (ps_ret (pe_call G_law_take (hr.mono (by first | decide | exact Nat.le_refl _ | omega)) (by rfl) T.g_law_take T.F_law_take.kp T.b_law_take .nil pass0 (pa_cons (pv 0) (pa_cons (pv 1) pa_nil))))))
      pss_nil)
      (pss_cons (ps_asg (pe_op op_mod (pe_callTy callInt (by rfl) T.z_int (by decide +kernel) (pa_cons (pe_op op_add (pe_op op_add (pe_op op_mul (pe_ix ixH (pv 0) pe_int (fun _ _ => rfl)) pe_int) (pe_op op_mul (pv 3) pe_int)) (pe_op op_mul (pe_ix ixH (pv 0) pe_int (fun _ _ => rfl)) pe_int)) pa_nil)) pe_int) (pg_sub (pv 0) pe_int setH))
      (pss_cons (ps_set (i := 4) sc_law_take.nd rfl (.inl rfl) (pe_op op_mod (pe_callTy callInt (by rfl) T.z_int (by decide +kernel) (pa_cons (pe_op op_add (pe_op op_add (pe_op op_mul (pe_ix ixH (pv 0) pe_int (fun _ _ => rfl)) (pe_ix ixH (pv 0) pe_int (fun _ _ => rfl))) (pe_op op_mul (pe_ix ixH (pv 0) pe_int (fun _ _ => rfl)) pe_int)) pe_int) pa_nil)) pe_int))
      (pss_one (ps_ret (pe_op op_mod (pe_callTy callInt (by rfl) T.z_int (by decide +kernel) (pa_cons (pe_op op_fdiv (pv 4) pe_int) pa_nil)) (pv 1))))))))))), ?_⟩
    simp only [tSeq, tAsg, tRet, tRetN, tDrop, tIfS, tNext, tNever, tOp, tUn, tVar, tC, rI0, rI, rU, tTest, tIf, tB, tAnd, tOr, tNot, tAndV, tOrV, tNotV, gName, gSub, gTupH, gCons, gNil, tYes, tCons, tNil, tLst, tTup, tCB, tCall, tMeth, tMake, tFld, sFld, tFor_c, tLc_c, iRng1, iList, iTup, iStr, iSeqB, iEnumB, tM1, tSl, tPart, tNoPart, rSlS, rIxS, tBM, rAppend, tIf, rEq, rNe, scal, hIx, hIxT, hIxB, hSet, hInt, hIntB, hLen, hLenT, hLenB, L2.start, wipe, List.map_cons, List.map_nil, List.set_cons_zero, List.set_cons_succ, List.set_nil, List.length_cons, List.length_nil, List.length_map, List.cons_append, List.nil_append, List.append_nil, List.replicate, List.getElem?_cons_zero, List.getElem?_cons_succ, Option.some.injEq, V.int.injEq, V.bl.injEq, V.ref.injEq, V.str.injEq, List.cons.injEq, exists_eq_left', exists_eq_left, exists_and_left, and_assoc, upd_same, upd_upd, HO.lst.injEq, HO.tup.injEq, atI_0, atI_1, atI_2, atI_3, set_1, set_2, set_3, CDiv, CPow, CMul, List.length_set, Int.reduceToNat, Int.reduceLE, Int.reduceLT, Int.reducePow, Int.reduceNeg, Nat.reduceAdd, Nat.reduceLT, Nat.reduceLeDiff, Nat.reducePow, Nat.zero_add, or_true, true_or, gt_iff_lt, ge_iff_le, and_true, true_and, decide_eq_true_eq, if_true, Bool.false_eq_true, if_false, *]
    have big : ∀ y : Int, (-18446744073709551616 < y % 2147483647 ∧ y % 2147483647 < 18446744073709551616) := fun y => by omega
    have fin : ∀ y z : Int, 0 ≤ y % 1000000007 / 3 % m ∧ y % 1000000007 / 3 % m < m := fun y z => ⟨Int.emod_nonneg _ (by omega), Int.emod_lt_of_pos _ hm⟩
    have fx : ∀ y : Int, 0 ≤ y % 2147483647 ∧ y % 2147483647 < 2147483647 := fun y => by omega
    refine ite2 (fun c1 => ?_) (fun c1 => ?_)
    · exact q _ _ _ _ (Int.emod_nonneg _ (by omega)) (Int.emod_lt_of_pos _ hm) hi (Int.ediv_nonneg hd (by omega)) hx hx2
    · refine ite2 (fun c2 => ?_) (fun c2 => ?_)
      · have hlt : i.toNat < cells.length := by omega
        have hz : (cells.map V.int)[i.toNat]? = some (.int cells[i.toNat]) := by
          rw [List.getElem?_map, List.getElem?_eq_getElem hlt]
          rfl
        have hnn : 0 ≤ cells[i.toNat] := hcl _ (List.getElem_mem hlt)
        refine ⟨_, by rw [← Int.toNat_of_nonneg hi]; exact atI_nat hz, _, rfl, ?_⟩
        refine ite2 (fun c3 => ?_) (fun c3 => ?_)
        · refine ⟨_, rfl, ?_⟩
          refine ⟨p, m, c, cells, i + 1, cells[i.toNat] / 2, x, rfl, hm, hm2, upd_same, by rw [upd_ne hcp]; exact hc, hcp, hcl, by omega, by omega, hx, hx2, by omega, ?_⟩
          intro r i' d' x' h1 h2 h3 h4 h5 h6
          rw [upd_upd]
          exact q r i' d' x' h1 h2 h3 h4 h5 h6
        · refine ⟨_, rfl, .inl (big _), ?_⟩
          exact q _ _ _ _ (fin _ 0).1 (fin _ 0).2 (by omega) hd (fx _).1 (fx _).2
      · refine ⟨.inl (big _), ?_⟩
        exact q _ _ _ _ (fin _ 0).1 (fin _ 0).2 (by omega) hd (fx _).1 (fx _).2
end
end AK
set_option Elab.async false
set_option linter.all false
set_option maxRecDepth 100000
set_option maxHeartbeats 4000000
namespace AK
open PySem PySem.Spec PyProof.Rows L2
/-- the pool at p, its cells at c -/
structure PoolAt (H : Hp) (p c : Addr) : Prop where
  ne : c ≠ p
  ex : ∃ (cells : List Int) (i d x : Int), H p = some (.lst [.ref c, .int i, .int d, .int x]) ∧ H c = some (.lst (cells.map V.int)) ∧ (∀ z ∈ cells, 0 ≤ z) ∧ 0 ≤ i ∧ 0 ≤ d ∧ 0 ≤ x ∧ x < 2147483647
/-- all but what stands at p is kept -/
def Off1 (p : Addr) (H H' : Hp) : Prop := ∀ b o, b ≠ p → H b = some o → H' b = some o
theorem Off1.refl {p : Addr} {H : Hp} : Off1 p H H := fun _ _ _ e => e
theorem Off1.tr {p : Addr} {H H1 H2 : Hp} (a : Off1 p H H1) (b : Off1 p H1 H2) : Off1 p H H2 := fun x o h e => b x o h (a x o h e)
theorem Off1.of {p : Addr} {H H' : Hp} (s : Same H H') : Off1 p H H' := fun b o _ e => s b o e
theorem PoolAt.has {H : Hp} {p c : Addr} (h : PoolAt H p c) : ∃ o, H p = some o := by
  obtain ⟨_, _, _, _, e, _⟩ := h.ex
  exact ⟨_, e⟩
theorem PoolAt.same {H H' : Hp} {p c : Addr} (h : PoolAt H p c) (s : Same H H') : PoolAt H' p c := by
  obtain ⟨cells, i, d, x, h1, h2, h3⟩ := h.ex
  exact ⟨h.ne, cells, i, d, x, s _ _ h1, s _ _ h2, h3⟩
theorem PoolAt.new {H : Hp} {p c q : Addr} {o : HO} (h : PoolAt H p c) (hq : H q = none) : PoolAt (upd H q o) p c := h.same (same_new hq)
/-- a write at q, which is none of the pool's -/
theorem PoolAt.wr {H : Hp} {p c q : Addr} {o : HO} (h : PoolAt H p c) (h1 : q ≠ p) (h2 : q ≠ c) : PoolAt (upd H q o) p c := by
  obtain ⟨cells, i, d, x, e1, e2, e3⟩ := h.ex
  exact ⟨h.ne, cells, i, d, x, by rw [upd_ne h1.symm]; exact e1, by rw [upd_ne h2.symm]; exact e2, e3⟩
theorem Off1.new {p q : Addr} {H H' : Hp} {o : HO} (h : Off1 p H H') (hq : H' q = none) : Off1 p H (upd H' q o) := h.tr (.of (same_new hq))
/-- a write at an address that H does not hold -/
theorem Off1.wr {p q : Addr} {H H' : Hp} {o : HO} (h : Off1 p H H') (hq : H q = none) : Off1 p H (upd H' q o) := fun b u hb e => by
  rw [upd_ne (ne_of_none e hq)]
  exact h b u hb e
theorem Off1.fresh {p q c : Addr} {H H1 : Hp} (h : Off1 p H H1) (hp : PoolAt H1 p c) (hq : H1 q = none) : H q = none := by
  cases e : H q with
  | none => rfl
  | some o =>
    by_cases z : q = p
    · obtain ⟨o', e'⟩ := hp.has
      rw [z, e'] at hq
      cases hq
    · rw [h q o z e] at hq
      cases hq
theorem PoolAt.ne_p {H : Hp} {p c q : Addr} (h : PoolAt H p c) (hq : H q = none) : q ≠ p := fun z => by
  obtain ⟨o, e⟩ := h.has
  rw [z, e] at hq
  cases hq
theorem PoolAt.ne_c {H : Hp} {p c q : Addr} (h : PoolAt H p c) (hq : H q = none) : q ≠ c := fun z => by
  obtain ⟨_, _, _, _, _, e, _⟩ := h.ex
  rw [z, e] at hq
  cases hq
theorem tab_off {H H' : Hp} {tb p c : Addr} (h : GxR.TabG H tb) (k : PoolAt H p c) (s : Off1 p H H') : GxR.TabG H' tb := by
  obtain ⟨ps, e, t⟩ := h
  refine ⟨ps, s _ _ (fun z => ?_) e, t⟩
  obtain ⟨_, _, _, _, e1, _⟩ := k.ex
  rw [← z, e] at e1
  cases e1
theorem take_pool {H : Hp} {p c : Addr} {m : Int} {Q : VK} {E : XK} (h : PoolAt H p c) (h0 : 0 < m) (h1 : m < 1073741824) (q : ∀ r H', 0 ≤ r → r < m → Off1 p H H' → (∀ b, b ≠ p → H' b = H b) → PoolAt H' p c → Q (.int r) H') :
    spTake (fun _ => True) [.ref p, .int m] H Q E := by
  obtain ⟨cells, i, d, x, e1, e2, e3, e4, e5, e6, e7⟩ := h.ex
  refine ⟨p, m, c, cells, i, d, x, rfl, h0, h1, e1, e2, h.ne, e3, e4, e5, e6, e7, trivial, fun r i' d' x' r0 r1 i0 d0 x0 x1 => q r _ r0 r1 (fun b o hb e => ?_) (fun b hb => upd_ne hb) ⟨h.ne, cells, i', d', x', upd_same, ?_, e3, i0, d0, x0, x1⟩⟩
  · rw [upd_ne hb]
    exact e
  · rw [upd_ne h.ne]
    exact e2
/-! ### texts that are drawn -/
theorem la (y z : Str) : (y ++ z).length = y.length + z.length := by
  show (y.cps ++ z.cps).size = _
  rw [Array.size_append]
  rfl
theorem tx_app (l m : List Nat) : tx l ++ tx m = tx (l ++ m) := by
  show (⟨l.toArray ++ m.toArray⟩ : Str) = _
  unfold tx
  simp
theorem join_tx : ∀ l : List Nat, Str.join Str.empty (l.map fun c => tx [c]) = tx l
  | [] => rfl
  | [c] => rfl
  | c :: d :: l => by
    have ih := join_tx (d :: l)
    show tx [c] ++ Str.empty ++ Str.join Str.empty ((d :: l).map fun c => tx [c]) = _
    rw [ih, show Str.empty = tx [] from rfl, tx_app, tx_app]
    rfl
theorem sum_one : ∀ l : List Nat, ((l.map fun c => tx [c]).map (·.length)).sum = l.length
  | [] => rfl
  | c :: l => by
    rw [List.map_cons, List.map_cons, List.sum_cons, sum_one l, List.length_cons, len_tx]
    simp [Nat.add_comm]
theorem asc_sub : ∀ (l b : List Nat), b.Nodup → l.Sublist b → asc b l = true
  | [], b, _, _ => asc_nil b
  | c :: l, b, hn, hs => by
    have hm : c ∈ b := hs.subset (List.mem_cons_self ..)
    obtain ⟨p, q, e1, e2, e3⟩ := split_at hm
    have key : ∀ p : List Nat, c ∉ p → (c :: l).Sublist (p ++ c :: q) → l.Sublist q := by
      intro p
      induction p with
      | nil =>
        intro _ h
        exact List.cons_sublist_cons.mp h
      | cons y p ih =>
        intro hp h
        cases h with
        | cons _ h' => exact ih (fun z => hp (List.mem_cons_of_mem _ z)) h'
        | cons_cons _ h' => exact absurd (List.mem_cons_self ..) hp
    rw [asc_cons, decide_eq_true hm, Bool.true_and, e3]
    rw [e1] at hs hn
    refine asc_sub l q ?_ (key p e2 hs)
    have := (List.nodup_append.mp hn).2.1
    exact (List.nodup_cons.mp this).2
end AK
set_option Elab.async false
set_option linter.all false
set_option maxRecDepth 100000
set_option maxHeartbeats 4000000
namespace AK
open PySem PySem.Spec PyProof.Rows L2
theorem rep_snoc (i : Nat) : (List.replicate i true).map V.bl ++ [V.bl true] = V.bl true :: (List.replicate i true).map V.bl := by
  rw [List.map_replicate, ← List.replicate_succ', List.replicate_succ]
/-- the same data, of a depth of n at most -/
inductive SameD (H : Hp) : Nat → V → V → Prop where
  | non (n : Nat) : SameD H n .non .non
  | bl (n : Nat) (b : Bool) : SameD H n (.bl b) (.bl b)
  | int (n : Nat) (i : Int) : SameD H n (.int i) (.int i)
  | str (n : Nat) (x : Str) : SameD H n (.str x) (.str x)
  | tup {n : Nat} {p q : Addr} {xs ys : List V} (e1 : H p = some (.tup xs)) (e2 : H q = some (.tup ys)) (l : xs.length = ys.length) (l2 : ys.length ≤ 900) (h : ∀ (i : Nat) (x y : V), xs[i]? = some x → ys[i]? = some y → SameD H n x y) : SameD H (n + 1) (.ref p) (.ref q)
  | lst {n : Nat} {p q : Addr} {xs ys : List V} (e1 : H p = some (.lst xs)) (e2 : H q = some (.lst ys)) (l : xs.length = ys.length) (l2 : ys.length ≤ 900) (h : ∀ (i : Nat) (x y : V), xs[i]? = some x → ys[i]? = some y → SameD H n x y) : SameD H (n + 1) (.ref p) (.ref q)
theorem SameD.same {H H' : Hp} (s : Same H H') {n : Nat} {x y : V} (h : SameD H n x y) : SameD H' n x y := by
  induction h with
  | non n => exact .non n
  | bl n b => exact .bl n b
  | int n i => exact .int n i
  | str n x => exact .str n x
  | tup e1 e2 l l2 _ ih => exact .tup (s _ _ e1) (s _ _ e2) l l2 ih
  | lst e1 e2 l l2 _ ih => exact .lst (s _ _ e1) (s _ _ e2) l l2 ih
theorem isi_of {K : PySem.W.Frag} {H : Hp} {x : V} {t : Value} {T : String} {b : Bool} {Q : VK} (h : TyOf K H x t) (e : PySem.W.kitOne K t (.type T) = some b) (q : Q (.bl b) H) : rIsi K [x, .ty T] H Q := ⟨x, .ty T, t, _, b, rfl, .ty T, .base h, e, q⟩
section
variable {P : Program} {w : World} {K : PySem.W.Frag} {mg : Str → Option Value} {base : Heap} {a : Ads}
def spInt : Sp := fun vs H Q _ => ∃ i : Int, vs = [.int i] ∧ Q (.bl true) H
theorem ok_law_is_integer (T : Txt K mg a) : FnOk P w K mg base CX0 1 a.a_law_is_integer a.d_law_is_integer ["actual"] spInt := by
  refine T.F_law_is_integer.ok sc_law_is_integer (fun vs H Q E h => ?_) (fun cdv A outer s H vs Q E hr h => ?_)
  · obtain ⟨_, rfl, _⟩ := h
    rfl
  · obtain ⟨i, rfl, q⟩ := h
    refine ⟨_, (pss_one (ps_ret (pe_and (pe_callB call_isi (by rfl) T.z_isinstance (by decide +kernel) (pa_cons (pv 0) (pa_cons (pe_bltn (v := .ty "int") (by rfl) T.z_int (by decide +kernel) rfl) pa_nil))) (pe_one (pe_not (pe_callB call_isi (by rfl) T.z_isinstance (by decide +kernel) (pa_cons (pv 0) (pa_cons (pe_bltn (v := .ty "bool") (by rfl) T.z_bool (by decide +kernel) rfl) pa_nil)))))))), ?_⟩
    simp only [tSeq, tAsg, tRet, tRetN, tDrop, tIfS, tNext, tNever, tOp, tUn, tVar, tC, rI0, rI, rU, tTest, tIf, tB, tAnd, tOr, tNot, tAndV, tOrV, tNotV, gName, gSub, gTupH, gCons, gNil, tYes, tCons, tNil, tLst, tTup, tCB, tCall, tMeth, tMake, tFld, sFld, tFor_c, tLc_c, iRng1, iList, iTup, iStr, iSeqB, iEnumB, tM1, tSl, tPart, tNoPart, rSlS, rIxS, tBM, rAppend, tIf, rEq, rNe, scal, hIx, hIxT, hIxB, hSet, hInt, hIntB, hLen, hLenT, hLenB, L2.start, wipe, List.map_cons, List.map_nil, List.set_cons_zero, List.set_cons_succ, List.set_nil, List.length_cons, List.length_nil, List.length_map, List.cons_append, List.nil_append, List.append_nil, List.replicate, List.getElem?_cons_zero, List.getElem?_cons_succ, Option.some.injEq, V.int.injEq, V.bl.injEq, V.ref.injEq, V.str.injEq, List.cons.injEq, exists_eq_left', exists_eq_left, exists_and_left, and_assoc, upd_same, upd_upd, HO.lst.injEq, HO.tup.injEq, atI_0, atI_1, atI_2, atI_3, set_1, set_2, set_3, CDiv, CPow, CMul, List.length_set, Int.reduceToNat, Int.reduceLE, Int.reduceLT, Int.reducePow, Int.reduceNeg, Nat.reduceAdd, Nat.reduceLT, Nat.reduceLeDiff, Nat.reducePow, Nat.zero_add, or_true, true_or, gt_iff_lt, ge_iff_le, and_true, true_and, decide_eq_true_eq, if_true, Bool.false_eq_true, if_false]
    refine isi_of (.int i) (by rfl) ⟨true, rfl, iteT (isi_of (.int i) (by rfl) ⟨false, rfl, q⟩)⟩
def spSame (n : Nat) : Sp := fun vs H Q _ => ∃ x y, vs = [x, y] ∧ SameD H n x y ∧ ∀ H', Same H H' → Q (.bl true) H'
theorem ok_same_core (T : Txt K mg a) (m k : Nat) (spI : Sp) (hk : 1 ≤ k) (G_law_same : FnOk P w K mg base CX0 k a.a_law_same a.d_law_same ["actual", "due"] spI) (hI : ∀ n, m = n + 1 → ∀ vs H Q E, spSame n vs H Q E → spI vs H Q E) :
    FnOk P w K mg base CX0 (k + 1) a.a_law_same a.d_law_same ["actual", "due"] (spSame m) := by
  have G_law_is_integer := (ok_law_is_integer (P := P) (w := w) (base := base) T).mono hk
  refine T.F_law_same.ok sc_law_same (fun vs H Q E h => ?_) (fun cdv A outer s H vs Q E hr h => ?_)
  · obtain ⟨_, _, rfl, _⟩ := h
    rfl
  · obtain ⟨x, y, rfl, hs, q⟩ := h
    refine ⟨_, (pss_cons (ps_if (pt_val (pe_callB call_isi (by rfl) T.z_isinstance (by decide +kernel) (pa_cons (pv 1) (pa_cons (pe_bltn (v := .ty "tuple") (by rfl) T.z_tuple (by decide +kernel) rfl) pa_nil))))
      (pss_cons (ps_if (PW.pt (pw_or (pt_not (pt_val (pe_callB call_isi (by rfl) T.z_isinstance (by decide +kernel) (pa_cons (pv 0) (pa_cons (pe_bltn (v := .ty "tuple") (by rfl) T.z_tuple (by decide +kernel) rfl) pa_nil))))) (pw_or1 (pt_cmpR op_ne (pe_callB callLenT (by rfl) T.z_len PySem.boot_len (pa_cons (pv 0) pa_nil)) (pe_callB callLenT (by rfl) T.z_len PySem.boot_len (pa_cons (pv 1) pa_nil)) (nomark _)))))
      (pss_one (ps_ret pe_bl))
      pss_nil)
      (pss_one (ps_ret (pe_callB (cr_all rfl) (by rfl) T.z_all (by decide +kernel) (pa_cons (pe_lc (own := [("k", 2)]) (g := gName 2) (tt := tYes) rfl sc_law_same.nd (pi_range1 (by rfl) T.z_range (pa_cons (pe_callB callLenT (by rfl) T.z_len PySem.boot_len (pa_cons (pv 1) pa_nil)) pa_nil)) (blkOk_by (own := [("k", 2)]) (N := sc_law_same_N) (sc := defScope s_law_same) (by decide +kernel)) (fun _ _ _ _ _ => (pg_name (i := 2) sc_law_same.nd rfl (.inl rfl))) (fun _ _ _ _ _ => pts_nil) (fun _ _ _ _ _ => (pe_call G_law_same (hr.mono (by first | decide | exact Nat.le_refl _ | omega)) (by rfl) T.g_law_same T.F_law_same.kp T.b_law_same .nil pass0 (pa_cons (pe_ix ixHT (pv 0) (pv 2) (fun _ _ => rfl)) (pa_cons (pe_ix ixHT (pv 1) (pv 2) (fun _ _ => rfl)) pa_nil))))) pa_nil)))))
      pss_nil)
      (pss_cons (ps_if (pt_val (pe_callB call_isi (by rfl) T.z_isinstance (by decide +kernel) (pa_cons (pv 1) (pa_cons (pe_bltn (v := .ty "list") (by rfl) T.z_list (by decide +kernel) rfl) pa_nil))))
      (pss_cons (ps_if (PW.pt (pw_or (pt_not (pt_val (pe_callB call_isi (by rfl) T.z_isinstance (by decide +kernel) (pa_cons (pv 0) (pa_cons (pe_bltn (v := .ty "list") (by rfl) T.z_list (by decide +kernel) rfl) pa_nil))))) (pw_or1 (pt_cmpR op_ne (pe_callB callLen (by rfl) T.z_len PySem.boot_len (pa_cons (pv 0) pa_nil)) (pe_callB callLen (by rfl) T.z_len PySem.boot_len (pa_cons (pv 1) pa_nil)) (nomark _)))))
      (pss_one (ps_ret pe_bl))
      pss_nil)
      (pss_one (ps_ret (pe_callB (cr_all rfl) (by rfl) T.z_all (by decide +kernel) (pa_cons (pe_lc (own := [("k", 2)]) (g := gName 2) (tt := tYes) rfl sc_law_same.nd (pi_range1 (by rfl) T.z_range (pa_cons (pe_callB callLen (by rfl) T.z_len PySem.boot_len (pa_cons (pv 1) pa_nil)) pa_nil)) (blkOk_by (own := [("k", 2)]) (N := sc_law_same_N) (sc := defScope s_law_same) (by decide +kernel)) (fun _ _ _ _ _ => (pg_name (i := 2) sc_law_same.nd rfl (.inl rfl))) (fun _ _ _ _ _ => pts_nil) (fun _ _ _ _ _ => (pe_call G_law_same (hr.mono (by first | decide | exact Nat.le_refl _ | omega)) (by rfl) T.g_law_same T.F_law_same.kp T.b_law_same .nil pass0 (pa_cons (pe_ix ixH (pv 0) (pv 2) (fun _ _ => rfl)) (pa_cons (pe_ix ixH (pv 1) (pv 2) (fun _ _ => rfl)) pa_nil))))) pa_nil)))))
      pss_nil)
      (pss_cons (ps_if (pt_cmpR op_isN (pv 1) pe_non (nomark _))
      (pss_one (ps_ret (pe_cmpR op_isN (pv 0) pe_non (nomark _))))
      pss_nil)
      (pss_cons (ps_if (pt_val (pe_callB call_isi (by rfl) T.z_isinstance (by decide +kernel) (pa_cons (pv 1) (pa_cons (pe_bltn (v := .ty "bool") (by rfl) T.z_bool (by decide +kernel) rfl) pa_nil))))
      (pss_one (ps_ret (pe_and (pe_callB call_isi (by rfl) T.z_isinstance (by decide +kernel) (pa_cons (pv 0) (pa_cons (pe_bltn (v := .ty "bool") (by rfl) T.z_bool (by decide +kernel) rfl) pa_nil))) (pe_one (pe_cmpR op_eq (pv 0) (pv 1) (nomark _))))))
      pss_nil)
      (pss_cons (ps_if (pt_val (pe_callB call_isi (by rfl) T.z_isinstance (by decide +kernel) (pa_cons (pv 1) (pa_cons (pe_bltn (v := .ty "str") (by rfl) T.z_str (by decide +kernel) rfl) pa_nil))))
      (pss_one (ps_ret (pe_and (pe_callB call_isi (by rfl) T.z_isinstance (by decide +kernel) (pa_cons (pv 0) (pa_cons (pe_bltn (v := .ty "str") (by rfl) T.z_str (by decide +kernel) rfl) pa_nil))) (pe_one (pe_cmpR op_eq (pv 0) (pv 1) (nomark _))))))
      pss_nil)
      (pss_one (ps_ret (pe_and (pe_call G_law_is_integer (hr.mono (by first | decide | exact Nat.le_refl _ | omega)) (by rfl) T.g_law_is_integer T.F_law_is_integer.kp T.b_law_is_integer .nil pass0 (pa_cons (pv 0) pa_nil)) (pe_one (pe_cmpR op_eq (pv 0) (pv 1) (nomark _))))))))))), ?_⟩
    have q0 := q H (Same.refl _)
    simp only [tSeq, tAsg, tRet, tRetN, tDrop, tIfS, tNext, tNever, tOp, tUn, tVar, tC, rI0, rI, rU, tTest, tIf, tB, tAnd, tOr, tNot, tAndV, tOrV, tNotV, gName, gSub, gTupH, gCons, gNil, tYes, tCons, tNil, tLst, tTup, tCB, tCall, tMeth, tMake, tFld, sFld, tFor_c, tLc_c, iRng1, iList, iTup, iStr, iSeqB, iEnumB, tM1, tSl, tPart, tNoPart, rSlS, rIxS, tBM, rAppend, tIf, rEq, rNe, scal, hIx, hIxT, hIxB, hSet, hInt, hIntB, hLen, hLenT, hLenB, L2.start, wipe, List.map_cons, List.map_nil, List.set_cons_zero, List.set_cons_succ, List.set_nil, List.length_cons, List.length_nil, List.length_map, List.cons_append, List.nil_append, List.append_nil, List.replicate, List.getElem?_cons_zero, List.getElem?_cons_succ, Option.some.injEq, V.int.injEq, V.bl.injEq, V.ref.injEq, V.str.injEq, List.cons.injEq, exists_eq_left', exists_eq_left, exists_and_left, and_assoc, upd_same, upd_upd, HO.lst.injEq, HO.tup.injEq, atI_0, atI_1, atI_2, atI_3, set_1, set_2, set_3, CDiv, CPow, CMul, List.length_set, Int.reduceToNat, Int.reduceLE, Int.reduceLT, Int.reducePow, Int.reduceNeg, Nat.reduceAdd, Nat.reduceLT, Nat.reduceLeDiff, Nat.reducePow, Nat.zero_add, or_true, true_or, gt_iff_lt, ge_iff_le, and_true, true_and, decide_eq_true_eq, if_true, Bool.false_eq_true, if_false]
    cases hs with
    | non n =>
      refine isi_of .non (by rfl) ⟨false, rfl, iteF (isi_of .non (by rfl) ⟨false, rfl, iteF ?_⟩)⟩
      rw [if_pos rfl, decide_eq_true rfl]
      exact q0
    | bl n b =>
      refine isi_of (.bl b) (by rfl) ⟨false, rfl, iteF (isi_of (.bl b) (by rfl) ⟨false, rfl, iteF ?_⟩)⟩
      rw [if_neg (fun z => by cases z)]
      refine isi_of (.bl b) (by rfl) ⟨true, rfl, iteT (isi_of (.bl b) (by rfl) ⟨true, rfl, iteT ⟨rfl, ?_⟩⟩)⟩
      rw [decide_eq_true rfl]
      exact q0
    | int n i =>
      refine isi_of (.int i) (by rfl) ⟨false, rfl, iteF (isi_of (.int i) (by rfl) ⟨false, rfl, iteF ?_⟩)⟩
      rw [if_neg (fun z => by cases z)]
      refine isi_of (.int i) (by rfl) ⟨false, rfl, iteF (isi_of (.int i) (by rfl) ⟨false, rfl, iteF ?_⟩)⟩
      refine ⟨i, rfl, true, rfl, iteT ⟨rfl, ?_⟩⟩
      rw [decide_eq_true rfl]
      exact q0
    | str n x =>
      refine isi_of (.str x) (by rfl) ⟨false, rfl, iteF (isi_of (.str x) (by rfl) ⟨false, rfl, iteF ?_⟩)⟩
      rw [if_neg (fun z => by cases z)]
      refine isi_of (.str x) (by rfl) ⟨false, rfl, iteF (isi_of (.str x) (by rfl) ⟨true, rfl, iteT (isi_of (.str x) (by rfl) ⟨true, rfl, iteT ⟨rfl, ?_⟩⟩)⟩)⟩
      rw [decide_eq_true rfl]
      exact q0
    | @tup n p1 p2 xs ys e1 e2 l l2 h =>
      refine isi_of (.tup e2) (by rfl) ⟨true, rfl, iteT (isi_of (.tup e1) (by rfl) ⟨true, rfl, ?_⟩)⟩
      refine iteF ⟨p1, rfl, _, e1, p2, rfl, _, e2, ?_⟩
      rw [decide_eq_true (by rw [l])]
      refine iteF ⟨p2, rfl, _, e2, by omega, by omega, ?_⟩
      refine lcRng (fun i D H' => H' D = some (.lst ((List.replicate i true).map V.bl)) ∧ Same H H') (fun D hD => ⟨upd_same, same_new hD⟩) ?_ ?_
      · rintro i D H' hD hi ⟨eD, s1⟩
        have hi' : i < ys.length := by omega
        have ei : (0 : Int) + (i : Nat) = (i : Nat) := Int.zero_add _
        have ax : xs[i]? = some (xs[i]'(by omega)) := List.getElem?_eq_getElem _
        have ay : ys[i]? = some ys[i] := List.getElem?_eq_getElem hi'
        refine ⟨rfl, ?_⟩
        simp only [tSeq, tAsg, tRet, tRetN, tDrop, tIfS, tNext, tNever, tOp, tUn, tVar, tC, rI0, rI, rU, tTest, tIf, tB, tAnd, tOr, tNot, tAndV, tOrV, tNotV, gName, gSub, gTupH, gCons, gNil, tYes, tCons, tNil, tLst, tTup, tCB, tCall, tMeth, tMake, tFld, sFld, tFor_c, tLc_c, iRng1, iList, iTup, iStr, iSeqB, iEnumB, tM1, tSl, tPart, tNoPart, rSlS, rIxS, tBM, rAppend, tIf, rEq, rNe, scal, hIx, hIxT, hIxB, hSet, hInt, hIntB, hLen, hLenT, hLenB, L2.start, wipe, List.map_cons, List.map_nil, List.set_cons_zero, List.set_cons_succ, List.set_nil, List.length_cons, List.length_nil, List.length_map, List.cons_append, List.nil_append, List.append_nil, List.replicate, List.getElem?_cons_zero, List.getElem?_cons_succ, Option.some.injEq, V.int.injEq, V.bl.injEq, V.ref.injEq, V.str.injEq, List.cons.injEq, exists_eq_left', exists_eq_left, exists_and_left, and_assoc, upd_same, upd_upd, HO.lst.injEq, HO.tup.injEq, atI_0, atI_1, atI_2, atI_3, set_1, set_2, set_3, CDiv, CPow, CMul, List.length_set, Int.reduceToNat, Int.reduceLE, Int.reduceLT, Int.reducePow, Int.reduceNeg, Nat.reduceAdd, Nat.reduceLT, Nat.reduceLeDiff, Nat.reducePow, Nat.zero_add, or_true, true_or, gt_iff_lt, ge_iff_le, and_true, true_and, decide_eq_true_eq, if_true, Bool.false_eq_true, if_false]
        refine ⟨_, s1 _ _ e1, _, by rw [ei]; exact atI_nat ax, _, s1 _ _ e2, _, by rw [ei]; exact atI_nat ay, ?_⟩
        refine hI n rfl _ _ _ _ ⟨_, _, rfl, (h i _ _ ax ay).same s1, fun H2 s2 => ?_⟩
        refine ⟨_, s2 _ _ eD, by rw [List.length_map, List.length_replicate]; exact small1000 (by omega), ?_, same_out (Same.tr s1 s2) hD⟩
        exact rep_snoc i
      · rintro D H' hD ⟨eD, s1⟩
        refine ⟨D, _, rfl, SqL.of eD, ?_⟩
        rw [show (List.replicate ((ys.length : Nat) : Int).toNat true).all id = true from by simp]
        exact q H' s1
    | @lst n p1 p2 xs ys e1 e2 l l2 h =>
      refine isi_of (.lst e2) (by rfl) ⟨false, rfl, iteF (isi_of (.lst e2) (by rfl) ⟨true, rfl, iteT (isi_of (.lst e1) (by rfl) ⟨true, rfl, ?_⟩)⟩)⟩
      refine iteF ⟨p1, rfl, _, e1, p2, rfl, _, e2, ?_⟩
      rw [decide_eq_true (by rw [l])]
      refine iteF ⟨p2, rfl, _, e2, by omega, by omega, ?_⟩
      refine lcRng (fun i D H' => H' D = some (.lst ((List.replicate i true).map V.bl)) ∧ Same H H') (fun D hD => ⟨upd_same, same_new hD⟩) ?_ ?_
      · rintro i D H' hD hi ⟨eD, s1⟩
        have hi' : i < ys.length := by omega
        have ei : (0 : Int) + (i : Nat) = (i : Nat) := Int.zero_add _
        have ax : xs[i]? = some (xs[i]'(by omega)) := List.getElem?_eq_getElem _
        have ay : ys[i]? = some ys[i] := List.getElem?_eq_getElem hi'
        refine ⟨rfl, ?_⟩
        simp only [tSeq, tAsg, tRet, tRetN, tDrop, tIfS, tNext, tNever, tOp, tUn, tVar, tC, rI0, rI, rU, tTest, tIf, tB, tAnd, tOr, tNot, tAndV, tOrV, tNotV, gName, gSub, gTupH, gCons, gNil, tYes, tCons, tNil, tLst, tTup, tCB, tCall, tMeth, tMake, tFld, sFld, tFor_c, tLc_c, iRng1, iList, iTup, iStr, iSeqB, iEnumB, tM1, tSl, tPart, tNoPart, rSlS, rIxS, tBM, rAppend, tIf, rEq, rNe, scal, hIx, hIxT, hIxB, hSet, hInt, hIntB, hLen, hLenT, hLenB, L2.start, wipe, List.map_cons, List.map_nil, List.set_cons_zero, List.set_cons_succ, List.set_nil, List.length_cons, List.length_nil, List.length_map, List.cons_append, List.nil_append, List.append_nil, List.replicate, List.getElem?_cons_zero, List.getElem?_cons_succ, Option.some.injEq, V.int.injEq, V.bl.injEq, V.ref.injEq, V.str.injEq, List.cons.injEq, exists_eq_left', exists_eq_left, exists_and_left, and_assoc, upd_same, upd_upd, HO.lst.injEq, HO.tup.injEq, atI_0, atI_1, atI_2, atI_3, set_1, set_2, set_3, CDiv, CPow, CMul, List.length_set, Int.reduceToNat, Int.reduceLE, Int.reduceLT, Int.reducePow, Int.reduceNeg, Nat.reduceAdd, Nat.reduceLT, Nat.reduceLeDiff, Nat.reducePow, Nat.zero_add, or_true, true_or, gt_iff_lt, ge_iff_le, and_true, true_and, decide_eq_true_eq, if_true, Bool.false_eq_true, if_false]
        refine ⟨_, s1 _ _ e1, _, by rw [ei]; exact atI_nat ax, _, s1 _ _ e2, _, by rw [ei]; exact atI_nat ay, ?_⟩
        refine hI n rfl _ _ _ _ ⟨_, _, rfl, (h i _ _ ax ay).same s1, fun H2 s2 => ?_⟩
        refine ⟨_, s2 _ _ eD, by rw [List.length_map, List.length_replicate]; exact small1000 (by omega), ?_, same_out (Same.tr s1 s2) hD⟩
        exact rep_snoc i
      · rintro D H' hD ⟨eD, s1⟩
        refine ⟨D, _, rfl, SqL.of eD, ?_⟩
        rw [show (List.replicate ((ys.length : Nat) : Int).toNat true).all id = true from by simp]
        exact q H' s1
theorem ok_law_same (T : Txt K mg a) : ∀ n, FnOk P w K mg base CX0 (n + 2) a.a_law_same a.d_law_same ["actual", "due"] (spSame n)
  | 0 => ok_same_core T 0 1 (fun _ _ _ _ => False) (Nat.le_refl _) ⟨fun _ _ _ _ h => h.elim, fun _ _ _ _ _ _ _ _ _ _ _ _ _ h => h.elim⟩ fun _ h => by cases h
  | n + 1 => ok_same_core T (n + 1) (n + 2) (spSame n) (by omega) (ok_law_same T n) fun m h vs H Q E z => by
    cases h
    exact z
end
end AK
set_option Elab.async false
set_option linter.all false
set_option maxRecDepth 100000
set_option maxHeartbeats 4000000
namespace AK
open PySem PySem.Spec PyProof.Rows L2
theorem rowOff {p c r : Addr} {H H' : Hp} {xs : List V} (h : RowAt H r xs) (k : PoolAt H p c) (s : Off1 p H H') (ne : r ≠ p) : RowAt H' r xs := h.imp (s _ _ ne) (s _ _ ne)
theorem cut6 {m : Nat} : cutS ("abcdef" : Str) none (some (m : Int)) = tx (six.take m) := by
  rw [cut_take, show lt ("abcdef" : Str) = six from by decide +kernel]
section
variable {P : Program} {w : World} {K : PySem.W.Frag} {mg : Str → Option Value} {base : Heap} {a : Ads}
def spPick : Sp := fun vs H Q _ => ∃ (p c r : Addr) (xs : List V), vs = [.ref p, .ref r] ∧ PoolAt H p c ∧ H r = some (.lst xs) ∧ r ≠ p ∧ xs ≠ [] ∧ xs.length ≤ 900 ∧ ∀ x H', x ∈ xs → Off1 p H H' → PoolAt H' p c → Q x H'
theorem ok_law_pick (T : Txt K mg a) : FnOk P w K mg base CX0 3 a.a_law_pick a.d_law_pick ["pool", "rows"] spPick := by
  have G_law_take := ok_law_take (P := P) (w := w) (base := base) T
  refine T.F_law_pick.ok sc_law_pick (fun vs H Q E h => ?_) (fun cdv A outer s H vs Q E hr h => ?_)
  · obtain ⟨_, _, _, _, rfl, _⟩ := h
    rfl
  · obtain ⟨p, c, r, xs, rfl, hP, hr1, ne, h0, hl, q⟩ := h
    refine ⟨_, (pss_one (ps_ret (pe_ix ixH (pv 1) (pe_call G_law_take (hr.mono (by first | decide | exact Nat.le_refl _ | omega)) (by rfl) T.g_law_take T.F_law_take.kp T.b_law_take .nil pass0 (pa_cons (pv 0) (pa_cons (pe_callB callLen (by rfl) T.z_len PySem.boot_len (pa_cons (pv 1) pa_nil)) pa_nil))) (fun _ _ => rfl)))), ?_⟩
    simp only [tSeq, tAsg, tRet, tRetN, tDrop, tIfS, tNext, tNever, tOp, tUn, tVar, tC, rI0, rI, rU, tTest, tIf, tB, tAnd, tOr, tNot, tAndV, tOrV, tNotV, gName, gSub, gTupH, gCons, gNil, tYes, tCons, tNil, tLst, tTup, tCB, tCall, tMeth, tMake, tFld, sFld, tFor_c, tLc_c, iRng1, iList, iTup, iStr, iSeqB, iEnumB, tM1, tSl, tPart, tNoPart, rSlS, rIxS, tBM, rAppend, tIf, rEq, rNe, scal, hIx, hIxT, hIxB, hSet, hInt, hIntB, hLen, hLenT, hLenB, L2.start, wipe, List.map_cons, List.map_nil, List.set_cons_zero, List.set_cons_succ, List.set_nil, List.length_cons, List.length_nil, List.length_map, List.cons_append, List.nil_append, List.append_nil, List.replicate, List.getElem?_cons_zero, List.getElem?_cons_succ, Option.some.injEq, V.int.injEq, V.bl.injEq, V.ref.injEq, V.str.injEq, List.cons.injEq, exists_eq_left', exists_eq_left, exists_and_left, and_assoc, upd_same, upd_upd, HO.lst.injEq, HO.tup.injEq, atI_0, atI_1, atI_2, atI_3, set_1, set_2, set_3, CDiv, CPow, CMul, List.length_set, Int.reduceToNat, Int.reduceLE, Int.reduceLT, Int.reducePow, Int.reduceNeg, Nat.reduceAdd, Nat.reduceLT, Nat.reduceLeDiff, Nat.reducePow, Nat.zero_add, or_true, true_or, gt_iff_lt, ge_iff_le, and_true, true_and, decide_eq_true_eq, if_true, Bool.false_eq_true, if_false]
    have hpos : 0 < xs.length := List.length_pos_iff.mpr h0
    refine ⟨_, hr1, take_pool hP (by omega) (by omega) fun d H1 d0 d1 k1 _ p1 => ?_⟩
    refine ⟨_, _, rfl, k1 _ _ ne hr1, _, by rw [← Int.toNat_of_nonneg d0]; exact atI_nat (List.getElem?_eq_getElem (by omega)), ?_⟩
    exact q _ H1 (List.getElem_mem _) k1 p1
def spLPar : Sp := fun vs H Q _ => ∃ (p c : Addr) (n : Nat), vs = [.ref p, .int (n : Int)] ∧ PoolAt H p c ∧ ∀ m H', m < 64 → (n ≤ 6 → m < 2 ^ n) → Off1 p H H' → PoolAt H' p c → Q (.str (pt m)) H'
theorem ok_law_parity (T : Txt K mg a) : FnOk P w K mg base CX0 3 a.a_law_parity a.d_law_parity ["pool", "variables"] spLPar := by
  have G_law_take := ok_law_take (P := P) (w := w) (base := base) T
  refine T.F_law_parity.ok sc_law_parity (fun vs H Q E h => ?_) (fun cdv A outer s H vs Q E hr h => ?_)
  · obtain ⟨_, _, _, rfl, _⟩ := h
    rfl
  · obtain ⟨p, c, n, rfl, hP, q⟩ := h
    refine ⟨_, (pss_cons (ps_set (i := 2) sc_law_parity.nd rfl (.inl rfl) (pe_slice sl_str pe_str po_none (po_some (pv 1))))
      (pss_one (ps_ret (pe_join pe_str (pe_lc (own := [("letter", 3)]) (g := gName 3)  rfl sc_law_parity.nd (pi_str (pv 2)) (blkOk_by (own := [("letter", 3)]) (N := sc_law_parity_N) (sc := defScope s_law_parity) (by decide +kernel)) (fun _ _ _ _ _ => (pg_name (i := 3) sc_law_parity.nd rfl (.inl rfl))) (fun _ _ _ _ _ => (pts_one (pt_cmpR op_eq (pe_call G_law_take (hr.mono (by first | decide | exact Nat.le_refl _ | omega)) (by rfl) T.g_law_take T.F_law_take.kp T.b_law_take .nil pass0 (pa_cons (pv 0) (pa_cons pe_int pa_nil))) pe_int (nomark _)))) (fun _ _ _ _ _ => (pv 3))))))), ?_⟩
    simp only [tSeq, tAsg, tRet, tRetN, tDrop, tIfS, tNext, tNever, tOp, tUn, tVar, tC, rI0, rI, rU, tTest, tIf, tB, tAnd, tOr, tNot, tAndV, tOrV, tNotV, gName, gSub, gTupH, gCons, gNil, tYes, tCons, tNil, tLst, tTup, tCB, tCall, tMeth, tMake, tFld, sFld, tFor_c, tLc_c, iRng1, iList, iTup, iStr, iSeqB, iEnumB, tM1, tSl, tPart, tNoPart, rSlS, rIxS, tBM, rAppend, tIf, rEq, rNe, scal, hIx, hIxT, hIxB, hSet, hInt, hIntB, hLen, hLenT, hLenB, L2.start, wipe, List.map_cons, List.map_nil, List.set_cons_zero, List.set_cons_succ, List.set_nil, List.length_cons, List.length_nil, List.length_map, List.cons_append, List.nil_append, List.append_nil, List.replicate, List.getElem?_cons_zero, List.getElem?_cons_succ, Option.some.injEq, V.int.injEq, V.bl.injEq, V.ref.injEq, V.str.injEq, List.cons.injEq, exists_eq_left', exists_eq_left, exists_and_left, and_assoc, upd_same, upd_upd, HO.lst.injEq, HO.tup.injEq, atI_0, atI_1, atI_2, atI_3, set_1, set_2, set_3, CDiv, CPow, CMul, List.length_set, Int.reduceToNat, Int.reduceLE, Int.reduceLT, Int.reducePow, Int.reduceNeg, Nat.reduceAdd, Nat.reduceLT, Nat.reduceLeDiff, Nat.reducePow, Nat.zero_add, or_true, true_or, gt_iff_lt, ge_iff_le, and_true, true_and, decide_eq_true_eq, if_true, Bool.false_eq_true, if_false]
    have ej : Txt.join ("" : Str) = fun ys => Str.join Str.empty ys := funext fun ys => TL.join_eq _ ys
    refine ⟨by decide +kernel, ⟨_, rfl⟩, ?_⟩
    rw [show cutS (Str.ofString "abcdef") none (some (n : Int)) = tx (six.take n) from cut6]
    refine lcStr (x := tx (six.take n)) (fun i D H' => ∃ l : List Nat, H' D = some (.lst ((l.map fun c => tx [c]).map V.str)) ∧ l.Sublist ((six.take n).take i) ∧ Off1 p H H' ∧ PoolAt H' p c) ?_ ?_ ?_
    · intro D hD
      exact ⟨[], upd_same, List.nil_sublist _, Off1.refl.new hD, hP.new hD⟩
    · rintro i ch D H' hD hc ⟨l, eD, sub, k2, p2⟩
      have hc : (six.take n)[i]? = some ch := hc
      refine ⟨rfl, ?_⟩
      simp only [tSeq, tAsg, tRet, tRetN, tDrop, tIfS, tNext, tNever, tOp, tUn, tVar, tC, rI0, rI, rU, tTest, tIf, tB, tAnd, tOr, tNot, tAndV, tOrV, tNotV, gName, gSub, gTupH, gCons, gNil, tYes, tCons, tNil, tLst, tTup, tCB, tCall, tMeth, tMake, tFld, sFld, tFor_c, tLc_c, iRng1, iList, iTup, iStr, iSeqB, iEnumB, tM1, tSl, tPart, tNoPart, rSlS, rIxS, tBM, rAppend, tIf, rEq, rNe, scal, hIx, hIxT, hIxB, hSet, hInt, hIntB, hLen, hLenT, hLenB, L2.start, wipe, List.map_cons, List.map_nil, List.set_cons_zero, List.set_cons_succ, List.set_nil, List.length_cons, List.length_nil, List.length_map, List.cons_append, List.nil_append, List.append_nil, List.replicate, List.getElem?_cons_zero, List.getElem?_cons_succ, Option.some.injEq, V.int.injEq, V.bl.injEq, V.ref.injEq, V.str.injEq, List.cons.injEq, exists_eq_left', exists_eq_left, exists_and_left, and_assoc, upd_same, upd_upd, HO.lst.injEq, HO.tup.injEq, atI_0, atI_1, atI_2, atI_3, set_1, set_2, set_3, CDiv, CPow, CMul, List.length_set, Int.reduceToNat, Int.reduceLE, Int.reduceLT, Int.reducePow, Int.reduceNeg, Nat.reduceAdd, Nat.reduceLT, Nat.reduceLeDiff, Nat.reducePow, Nat.zero_add, or_true, true_or, gt_iff_lt, ge_iff_le, and_true, true_and, decide_eq_true_eq, if_true, Bool.false_eq_true, if_false]
      refine take_pool p2 (by decide) (by decide) fun d H1 d0 d1 k3 k3' p3 => ?_
      have hDp : D ≠ p := hP.ne_p hD
      have hDc : D ≠ c := hP.ne_c hD
      have eD3 : H1 D = some (.lst ((l.map fun c => tx [c]).map V.str)) := by rw [k3' D hDp]; exact eD
      refine ⟨rfl, ite2 (fun c1 => ?_) (fun c1 => ?_)⟩
      · refine ⟨_, eD3, ?_, l ++ [ch], ?_, ?_, (k2.tr k3).wr hD, p3.wr hDp hDc⟩
        · rw [List.length_map, List.length_map]
          have := (sub.trans ((List.take_sublist _ _).trans (List.take_sublist _ _))).length_le
          simp only [six, List.length_cons, List.length_nil] at this
          exact small1000 (by omega)
        · rw [List.map_append, List.map_append]
          rfl
        · rw [take_s hc]
          exact sub.append (List.Sublist.refl _)
      · refine ⟨l, eD3, ?_, k2.tr k3, p3⟩
        rw [take_s hc]
        exact sub.trans (List.sublist_append_left _ _)
    · rintro D H' hD ⟨l, eD, sub, k2, p2⟩
      have sub6' : l.Sublist six := sub.trans ((List.take_sublist _ _).trans (List.take_sublist _ _))
      refine ⟨D, rfl, l.map (fun c => tx [c]), .inl (SqL.of eD), ?_, ?_⟩
      · rw [sum_one, show (Str.ofString "").length = 0 from by decide +kernel, Nat.mul_zero]
        have := sub6'.length_le
        simp only [six, List.length_cons, List.length_nil] at this
        omega
      · rw [show Str.ofString "" = ("" : Str) from rfl, ej]
        simp only [join_tx]
        by_cases h6 : n ≤ 6
        · obtain ⟨m, hm, e⟩ := sub6v h6 (sub.trans (List.take_sublist _ _))
          rw [e]
          exact q m H' (Nat.lt_of_lt_of_le hm (Nat.pow_le_pow_right (n := 2) (by decide) h6)) (fun _ => hm) k2 p2
        · obtain ⟨m, hm, e⟩ := sub6 sub6'
          rw [e]
          exact q m H' hm (fun z => absurd z h6) k2 p2
def spLSum : Sp := fun vs H Q _ => ∃ (r : Addr) (m n : Nat), vs = [.ref r] ∧ H r = some (.lst [.str (pt m), .str (pt n)]) ∧ m < 64 ∧ n < 64 ∧ ∀ H', Same H H' → Q (.str (pt (m ^^^ n))) H'
theorem ok_law_sum (T : Txt K mg a) : FnOk P w K mg base CX0 1 a.a_law_sum a.d_law_sum ["texts"] spLSum := by
  refine T.F_law_sum.ok sc_law_sum (fun vs H Q E h => ?_) (fun cdv A outer s H vs Q E hr h => ?_)
  · obtain ⟨_, _, _, rfl, _⟩ := h
    rfl
  · obtain ⟨r, m, n, rfl, hr1, hm, hn, q⟩ := h
    refine ⟨_, (pss_cons (ps_set (i := 1) sc_law_sum.nd rfl (.inr rfl) (pe_join pe_str (pv 0)))
      (pss_one (ps_ret (pe_join pe_str (pe_lc (own := [("letter", 2)]) (g := gName 2)  rfl sc_law_sum.nd (pi_str pe_str) (blkOk_by (own := [("letter", 2)]) (N := sc_law_sum_N) (sc := defScope s_law_sum) (by decide +kernel)) (fun _ _ _ _ _ => (pg_name (i := 2) sc_law_sum.nd rfl (.inl rfl))) (fun _ _ _ _ _ => (pts_one (pt_cmpR op_eq (pe_op op_mod (pe_callTy callInt (by rfl) T.z_int (by decide +kernel) (pa_cons (pe_m1 PySem.F.slot_str_count PySem.F.type_str_count mt_count (pv 1) (pv 2)) pa_nil)) pe_int) pe_int (nomark _)))) (fun _ _ _ _ _ => (pv 2))))))), ?_⟩
    simp only [tSeq, tAsg, tRet, tRetN, tDrop, tIfS, tNext, tNever, tOp, tUn, tVar, tC, rI0, rI, rU, tTest, tIf, tB, tAnd, tOr, tNot, tAndV, tOrV, tNotV, gName, gSub, gTupH, gCons, gNil, tYes, tCons, tNil, tLst, tTup, tCB, tCall, tMeth, tMake, tFld, sFld, tFor_c, tLc_c, iRng1, iList, iTup, iStr, iSeqB, iEnumB, tM1, tSl, tPart, tNoPart, rSlS, rIxS, tBM, rAppend, tIf, rEq, rNe, scal, hIx, hIxT, hIxB, hSet, hInt, hIntB, hLen, hLenT, hLenB, L2.start, wipe, List.map_cons, List.map_nil, List.set_cons_zero, List.set_cons_succ, List.set_nil, List.length_cons, List.length_nil, List.length_map, List.cons_append, List.nil_append, List.append_nil, List.replicate, List.getElem?_cons_zero, List.getElem?_cons_succ, Option.some.injEq, V.int.injEq, V.bl.injEq, V.ref.injEq, V.str.injEq, List.cons.injEq, exists_eq_left', exists_eq_left, exists_and_left, and_assoc, upd_same, upd_upd, HO.lst.injEq, HO.tup.injEq, atI_0, atI_1, atI_2, atI_3, set_1, set_2, set_3, CDiv, CPow, CMul, List.length_set, Int.reduceToNat, Int.reduceLE, Int.reduceLT, Int.reducePow, Int.reduceNeg, Nat.reduceAdd, Nat.reduceLT, Nat.reduceLeDiff, Nat.reducePow, Nat.zero_add, or_true, true_or, gt_iff_lt, ge_iff_le, and_true, true_and, decide_eq_true_eq, if_true, Bool.false_eq_true, if_false]
    have ej : Txt.join ("" : Str) = fun ys => Str.join Str.empty ys := funext fun ys => TL.join_eq _ ys
    refine ⟨⟨_, rfl⟩, [pt m, pt n], .inl (SqL.of hr1), ?_, ⟨_, rfl⟩, ?_⟩
    · have l1 : (pt m).length ≤ 8 := pl_len m
      have l2 : (pt n).length ≤ 8 := pl_len n
      have l3 : (Str.ofString "").length = 0 := by decide +kernel
      simp only [List.map_cons, List.map_nil, List.sum_cons, List.sum_nil, l3, Nat.mul_zero]
      omega
    rw [show Txt.join (Str.ofString "") [pt m, pt n] = tx (pl m ++ pl n) from by
      rw [show Str.ofString "" = ("" : Str) from rfl, ej]
      show pt m ++ Str.empty ++ pt n = _
      rw [show Str.empty = tx [] from rfl, pt, pt, tx_app, tx_app, List.append_nil]]
    rw [show Str.ofString "abcdef" = tx six from six_tx]
    refine lcStr (x := tx six) (fun i D H' => H' D = some (.lst ((((six.take i).filter fun c => (m ^^^ n).testBit (c - 97)).map fun c => tx [c]).map V.str)) ∧ Same H H') (fun D hD => ⟨upd_same, same_new hD⟩) ?_ ?_
    · rintro i ch D H' hD hc ⟨eD, s1⟩
      have hc : six[i]? = some ch := hc
      refine ⟨rfl, ?_⟩
      simp only [tSeq, tAsg, tRet, tRetN, tDrop, tIfS, tNext, tNever, tOp, tUn, tVar, tC, rI0, rI, rU, tTest, tIf, tB, tAnd, tOr, tNot, tAndV, tOrV, tNotV, gName, gSub, gTupH, gCons, gNil, tYes, tCons, tNil, tLst, tTup, tCB, tCall, tMeth, tMake, tFld, sFld, tFor_c, tLc_c, iRng1, iList, iTup, iStr, iSeqB, iEnumB, tM1, tSl, tPart, tNoPart, rSlS, rIxS, tBM, rAppend, tIf, rEq, rNe, scal, hIx, hIxT, hIxB, hSet, hInt, hIntB, hLen, hLenT, hLenB, L2.start, wipe, List.map_cons, List.map_nil, List.set_cons_zero, List.set_cons_succ, List.set_nil, List.length_cons, List.length_nil, List.length_map, List.cons_append, List.nil_append, List.append_nil, List.replicate, List.getElem?_cons_zero, List.getElem?_cons_succ, Option.some.injEq, V.int.injEq, V.bl.injEq, V.ref.injEq, V.str.injEq, List.cons.injEq, exists_eq_left', exists_eq_left, exists_and_left, and_assoc, upd_same, upd_upd, HO.lst.injEq, HO.tup.injEq, atI_0, atI_1, atI_2, atI_3, set_1, set_2, set_3, CDiv, CPow, CMul, List.length_set, Int.reduceToNat, Int.reduceLE, Int.reduceLT, Int.reducePow, Int.reduceNeg, Nat.reduceAdd, Nat.reduceLT, Nat.reduceLeDiff, Nat.reducePow, Nat.zero_add, or_true, true_or, gt_iff_lt, ge_iff_le, and_true, true_and, decide_eq_true_eq, if_true, Bool.false_eq_true, if_false]
      have ec := cnt_xor hm hn (List.mem_of_getElem? hc)
      have ec2 : Txt.count (tx (pl m ++ pl n)) (tx [ch]) = (((pl m ++ pl n).count ch : Nat) : Int) := cnt_one _ _
      rw [ec2, take_s hc, List.filter_append]
      refine ⟨⟨_, rfl⟩, ?_⟩
      by_cases h : (pl m ++ pl n).count ch % 2 = 1
      · rw [decide_eq_true h] at ec
        rw [if_pos (by exact_mod_cast h), show [ch].filter (fun c => (m ^^^ n).testBit (c - 97)) = [ch] from by rw [List.filter_cons, ← ec]; rfl]
        refine ⟨_, eD, ?_, ?_, same_out s1 hD⟩
        · rw [List.length_map, List.length_map]
          refine small1000 (Nat.le_trans (List.length_filter_le _ _) ?_)
          rw [List.length_take]
          simp only [six, List.length_cons, List.length_nil]
          omega
        · rw [List.map_append, List.map_append]
          rfl
      · rw [decide_eq_false h] at ec
        rw [if_neg (fun z => h (by exact_mod_cast z)), show [ch].filter (fun c => (m ^^^ n).testBit (c - 97)) = [] from by rw [List.filter_cons, ← ec]; rfl, List.append_nil]
        exact ⟨eD, s1⟩
    · rintro D H' hD ⟨eD, s1⟩
      rw [show (lt (tx six)).length = six.length from rfl, List.take_of_length_le (Nat.le_refl _), ← pl6 (xor64 hm hn)] at eD
      refine ⟨D, rfl, _, .inl (SqL.of eD), ?_, ?_⟩
      · rw [sum_one, show (Str.ofString "").length = 0 from by decide +kernel, Nat.mul_zero]
        have := pl_len (m ^^^ n)
        omega
      · rw [show Str.ofString "" = ("" : Str) from rfl, ej]
        simp only [join_tx]
        exact q H' s1
def spShaped : Sp := fun vs H Q _ => ∃ (p c r : Addr) (xs : List V), vs = [.ref p, .ref r] ∧ PoolAt H p c ∧ H r = some (.lst xs) ∧ r ≠ p ∧ xs.length ≤ 900 ∧ ∀ t H', Off1 p H H' → PoolAt H' p c → RowAt H' t xs → t ≠ p → Q (.ref t) H'
theorem ok_law_shaped (T : Txt K mg a) : FnOk P w K mg base CX0 3 a.a_law_shaped a.d_law_shaped ["pool", "rows"] spShaped := by
  have G_law_take := ok_law_take (P := P) (w := w) (base := base) T
  refine T.F_law_shaped.ok sc_law_shaped (fun vs H Q E h => ?_) (fun cdv A outer s H vs Q E hr h => ?_)
  · obtain ⟨_, _, _, _, rfl, _⟩ := h
    rfl
  · obtain ⟨p, c, r, xs, rfl, hP, hr1, ne, hl, q⟩ := h
    refine ⟨_, (pss_one (ps_ret (pe_ix ixHT (pe_tup (pa_cons (pe_callTy callLstB (by rfl) T.z_list (by decide +kernel) (pa_cons (pv 1) pa_nil)) (pa_cons (pe_callTy callTupB (by rfl) T.z_tuple (by decide +kernel) (pa_cons (pv 1) pa_nil)) pa_nil))) (pe_call G_law_take (hr.mono (by first | decide | exact Nat.le_refl _ | omega)) (by rfl) T.g_law_take T.F_law_take.kp T.b_law_take .nil pass0 (pa_cons (pv 0) (pa_cons pe_int pa_nil))) (fun _ _ => rfl)))), ?_⟩
    simp only [tSeq, tAsg, tRet, tRetN, tDrop, tIfS, tNext, tNever, tOp, tUn, tVar, tC, rI0, rI, rU, tTest, tIf, tB, tAnd, tOr, tNot, tAndV, tOrV, tNotV, gName, gSub, gTupH, gCons, gNil, tYes, tCons, tNil, tLst, tTup, tCB, tCall, tMeth, tMake, tFld, sFld, tFor_c, tLc_c, iRng1, iList, iTup, iStr, iSeqB, iEnumB, tM1, tSl, tPart, tNoPart, rSlS, rIxS, tBM, rAppend, tIf, rEq, rNe, scal, hIx, hIxT, hIxB, hSet, hInt, hIntB, hLen, hLenT, hLenB, L2.start, wipe, List.map_cons, List.map_nil, List.set_cons_zero, List.set_cons_succ, List.set_nil, List.length_cons, List.length_nil, List.length_map, List.cons_append, List.nil_append, List.append_nil, List.replicate, List.getElem?_cons_zero, List.getElem?_cons_succ, Option.some.injEq, V.int.injEq, V.bl.injEq, V.ref.injEq, V.str.injEq, List.cons.injEq, exists_eq_left', exists_eq_left, exists_and_left, and_assoc, upd_same, upd_upd, HO.lst.injEq, HO.tup.injEq, atI_0, atI_1, atI_2, atI_3, set_1, set_2, set_3, CDiv, CPow, CMul, List.length_set, Int.reduceToNat, Int.reduceLE, Int.reduceLT, Int.reducePow, Int.reduceNeg, Nat.reduceAdd, Nat.reduceLT, Nat.reduceLeDiff, Nat.reducePow, Nat.zero_add, or_true, true_or, gt_iff_lt, ge_iff_le, and_true, true_and, decide_eq_true_eq, if_true, Bool.false_eq_true, if_false]
    refine ⟨r, xs, rfl, .inl hr1, fun D1 h1 => ?_⟩
    have s1 := same_new (o := .lst xs) h1
    refine ⟨r, xs, rfl, .inl (s1 _ _ hr1), fun D2 H2 s2 _ e2 => ?_⟩
    refine ⟨by decide, fun D3 h3 => ?_⟩
    have s3 := same_new (o := .tup [V.ref D1, V.ref D2]) h3
    have s13 := Same.tr (Same.tr s1 s2) s3
    have p3 := hP.same s13
    refine take_pool p3 (by decide) (by decide) fun d H4 d0 d1 k4 k4' p4 => ?_
    have n1 : D1 ≠ p := hP.ne_p h1
    have n2 : D2 ≠ p := fun z => by
      obtain ⟨_, _, _, _, e, _⟩ := (hP.same (Same.tr s1 s2)).ex
      rw [z, e] at e2
      cases e2
    have n3 : D3 ≠ p := (hP.same (Same.tr s1 s2)).ne_p h3
    have e3 : H4 D3 = some (.tup [V.ref D1, V.ref D2]) := by rw [k4' D3 n3]; exact upd_same
    have k : Off1 p H H4 := (Off1.of s13).tr k4
    have c : d = 0 ∨ d = 1 := by omega
    refine ⟨_, _, rfl, e3, ?_⟩
    rcases c with rfl | rfl
    · refine ⟨_, atI_0, q D1 H4 k p4 (.inl ?_) n1⟩
      rw [k4' D1 n1]
      exact s3 _ _ (s2 _ _ upd_same)
    · refine ⟨_, atI_1, q D2 H4 k p4 (.inr ?_) n2⟩
      rw [k4' D2 n2]
      exact s3 _ _ e2
end
end AK
set_option Elab.async false
set_option linter.all false
set_option maxRecDepth 100000
set_option maxHeartbeats 4000000
namespace AK
open PySem PySem.Spec PyProof.Rows L2
section
variable {P : Program} {w : World} {K : PySem.W.Frag} {mg : Str → Option Value} {base : Heap} {a : Ads}
def spLDer : Sp := fun vs H Q _ => ∃ (r : Addr) (ms : List Nat), vs = [.ref r] ∧ H r = some (.lst (ps ms)) ∧ (∀ m ∈ ms, m < 64) ∧ ms.length ≤ 900 ∧ ∀ (ys : List Str) D H', ys.Perm ((der ms).map pt) → sortedS ys = true → Same H H' → H D = none → H' D = some (.lst (ys.map V.str)) → Q (.ref D) H'
theorem ok_law_derived (T : Txt K mg a) : FnOk P w K mg base CX0 2 a.a_law_derived a.d_law_derived ["messages"] spLDer := by
  have G_law_sum := ok_law_sum (P := P) (w := w) (base := base) T
  refine T.F_law_derived.ok sc_law_derived (fun vs H Q E h => ?_) (fun cdv A outer s H vs Q E hr h => ?_)
  · obtain ⟨_, _, rfl, _⟩ := h
    rfl
  · obtain ⟨r, ms, rfl, hr1, hm, hl, q⟩ := h
    refine ⟨_, (pss_cons (ps_set (i := 1) sc_law_derived.nd rfl (.inl rfl) (pe_lst (pa_cons pe_str pa_nil)))
      (pss_cons (ps_for PassesOwn.never rfl (pi_list (pv 0)) (pg_name (i := 2) sc_law_derived.nd rfl (.inr rfl))
      (pss_one (ps_if (pt_cmpR op_notIn_seq (pv 2) (pv 1) (by rfl))
      (pss_one (ps_set (i := 1) sc_law_derived.nd rfl (.inl rfl) (pe_op op_cat (pv 1) (pe_lc (own := [("one", 3)]) (g := gName 3) (tt := tYes) rfl sc_law_derived.nd (pi_list (pv 1)) (blkOk_by (own := [("one", 3)]) (N := sc_law_derived_N) (sc := defScope s_law_derived) (by decide +kernel)) (fun _ _ _ _ _ => (pg_name (i := 3) sc_law_derived.nd rfl (.inl rfl))) (fun _ _ _ _ _ => pts_nil) (fun _ _ _ _ _ => (pe_call G_law_sum (hr.mono (by first | decide | exact Nat.le_refl _ | omega)) (by rfl) T.g_law_sum T.F_law_sum.kp T.b_law_sum .nil pass0 (pa_cons (pe_lst (pa_cons (pv 3) (pa_cons (pv 2) pa_nil))) pa_nil)))))))
      pss_nil)))
      (pss_one (ps_ret (pe_callB cr_sortedSA (by rfl) T.z_sorted (by decide +kernel) (pa_cons (pv 1) pa_nil)))))), ?_⟩
    simp only [tSeq, tAsg, tRet, tRetN, tDrop, tIfS, tNext, tNever, tOp, tUn, tVar, tC, rI0, rI, rU, tTest, tIf, tB, tAnd, tOr, tNot, tAndV, tOrV, tNotV, gName, gSub, gTupH, gCons, gNil, tYes, tCons, tNil, tLst, tTup, tCB, tCall, tMeth, tMake, tFld, sFld, tFor_c, tLc_c, iRng1, iList, iTup, iStr, iSeqB, iEnumB, tM1, tSl, tPart, tNoPart, rSlS, rIxS, tBM, rAppend, tIf, rEq, rNe, scal, hIx, hIxT, hIxB, hSet, hInt, hIntB, hLen, hLenT, hLenB, L2.start, wipe, List.map_cons, List.map_nil, List.set_cons_zero, List.set_cons_succ, List.set_nil, List.length_cons, List.length_nil, List.length_map, List.cons_append, List.nil_append, List.append_nil, List.replicate, List.getElem?_cons_zero, List.getElem?_cons_succ, Option.some.injEq, V.int.injEq, V.bl.injEq, V.ref.injEq, V.str.injEq, List.cons.injEq, exists_eq_left', exists_eq_left, exists_and_left, and_assoc, upd_same, upd_upd, HO.lst.injEq, HO.tup.injEq, atI_0, atI_1, atI_2, atI_3, set_1, set_2, set_3, CDiv, CPow, CMul, List.length_set, Int.reduceToNat, Int.reduceLE, Int.reduceLT, Int.reducePow, Int.reduceNeg, Nat.reduceAdd, Nat.reduceLT, Nat.reduceLeDiff, Nat.reducePow, Nat.zero_add, or_true, true_or, gt_iff_lt, ge_iff_le, and_true, true_and, decide_eq_true_eq, if_true, Bool.false_eq_true, if_false]
    refine ⟨by decide, fun F0 hF0 => ?_⟩
    have e0 : upd H F0 (.lst [V.str (Str.ofString "")]) F0 = some (.lst (ps ((ms.take 0).foldl dstep [0]))) := by
      rw [upd_same, show Str.ofString "" = pt 0 from pt0]
      rfl
    refine ⟨⟨_, SqL.of (same_new hF0 _ _ hr1)⟩, ?_⟩
    have lt6 : ∀ i, ∀ x ∈ (ms.take i).foldl dstep [0], x < 64 := fun i => der_lt fun m h => hm m (List.mem_of_mem_take h)
    have le6 : ∀ i, ((ms.take i).foldl dstep [0]).length ≤ 64 := fun i => der_len fun m h => hm m (List.mem_of_mem_take h)
    refine forLst (xs := ps ms) (fun i σ H' => ∃ (f : Addr) (v w : Option V), σ = [some (.ref r), some (.ref f), v, w] ∧ Same H H' ∧ H' f = some (.lst (ps ((ms.take i).foldl dstep [0])))) ⟨F0, none, none, rfl, same_new hF0, e0⟩ ?_ ?_ ?_
    · rintro i σ H' _ ⟨f, v, w, rfl, s1, _⟩
      exact SqL.of (s1 _ _ hr1)
    · rintro i x σ H' hx ⟨f, v, w, rfl, s1, ef⟩
      obtain ⟨m, hm1, rfl⟩ := ps_at hx
      have hm64 := hm m (List.mem_of_getElem? hm1)
      simp only [tSeq, tAsg, tRet, tRetN, tDrop, tIfS, tNext, tNever, tOp, tUn, tVar, tC, rI0, rI, rU, tTest, tIf, tB, tAnd, tOr, tNot, tAndV, tOrV, tNotV, gName, gSub, gTupH, gCons, gNil, tYes, tCons, tNil, tLst, tTup, tCB, tCall, tMeth, tMake, tFld, sFld, tFor_c, tLc_c, iRng1, iList, iTup, iStr, iSeqB, iEnumB, tM1, tSl, tPart, tNoPart, rSlS, rIxS, tBM, rAppend, tIf, rEq, rNe, scal, hIx, hIxT, hIxB, hSet, hInt, hIntB, hLen, hLenT, hLenB, L2.start, wipe, List.map_cons, List.map_nil, List.set_cons_zero, List.set_cons_succ, List.set_nil, List.length_cons, List.length_nil, List.length_map, List.cons_append, List.nil_append, List.append_nil, List.replicate, List.getElem?_cons_zero, List.getElem?_cons_succ, Option.some.injEq, V.int.injEq, V.bl.injEq, V.ref.injEq, V.str.injEq, List.cons.injEq, exists_eq_left', exists_eq_left, exists_and_left, and_assoc, upd_same, upd_upd, HO.lst.injEq, HO.tup.injEq, atI_0, atI_1, atI_2, atI_3, set_1, set_2, set_3, CDiv, CPow, CMul, List.length_set, Int.reduceToNat, Int.reduceLE, Int.reduceLT, Int.reducePow, Int.reduceNeg, Nat.reduceAdd, Nat.reduceLT, Nat.reduceLeDiff, Nat.reducePow, Nat.zero_add, or_true, true_or, gt_iff_lt, ge_iff_le, and_true, true_and, decide_eq_true_eq, if_true, Bool.false_eq_true, if_false]
      refine ⟨f, _, rfl, .inl (SqL.of ef), rfl, flat_ps _, _, rfl, ?_⟩
      rw [if_pos rfl, in_ps (by omega) (fun k hk => Nat.lt_of_lt_of_le (lt6 i k hk) (by decide))]
      have et : (ms.take (i + 1)).foldl dstep [0] = dstep ((ms.take i).foldl dstep [0]) m := by
        rw [take_s hm1, List.foldl_append]
        rfl
      rw [et]
      generalize hF : (ms.take i).foldl dstep [0] = F at ef ⊢
      have ltF : ∀ x ∈ F, x < 64 := hF ▸ lt6 i
      have leF : F.length ≤ 64 := hF ▸ le6 i
      unfold dstep
      by_cases h : m ∈ F
      · rw [decide_eq_true h, if_neg (show ¬(!true) = true by decide), if_pos h]
        exact ⟨s1, ef⟩
      · rw [decide_eq_false h, if_pos (show (!false) = true from rfl), if_neg h]
        refine ⟨⟨_, SqL.of ef⟩, ?_⟩
        refine lcLst (xs := ps F) (fun j D H2 => H2 D = some (.lst (ps ((F.take j).map (· ^^^ m)))) ∧ Same H' H2) (fun D hD => ⟨upd_same, same_new hD⟩) (fun j D H2 _ _ z => SqL.of (z.2 _ _ ef)) ?_ ?_
        · rintro j x D H2 hD hx ⟨eD, s2⟩
          obtain ⟨k, hk, rfl⟩ := ps_at hx
          refine ⟨rfl, ?_⟩
          simp only [tSeq, tAsg, tRet, tRetN, tDrop, tIfS, tNext, tNever, tOp, tUn, tVar, tC, rI0, rI, rU, tTest, tIf, tB, tAnd, tOr, tNot, tAndV, tOrV, tNotV, gName, gSub, gTupH, gCons, gNil, tYes, tCons, tNil, tLst, tTup, tCB, tCall, tMeth, tMake, tFld, sFld, tFor_c, tLc_c, iRng1, iList, iTup, iStr, iSeqB, iEnumB, tM1, tSl, tPart, tNoPart, rSlS, rIxS, tBM, rAppend, tIf, rEq, rNe, scal, hIx, hIxT, hIxB, hSet, hInt, hIntB, hLen, hLenT, hLenB, L2.start, wipe, List.map_cons, List.map_nil, List.set_cons_zero, List.set_cons_succ, List.set_nil, List.length_cons, List.length_nil, List.length_map, List.cons_append, List.nil_append, List.append_nil, List.replicate, List.getElem?_cons_zero, List.getElem?_cons_succ, Option.some.injEq, V.int.injEq, V.bl.injEq, V.ref.injEq, V.str.injEq, List.cons.injEq, exists_eq_left', exists_eq_left, exists_and_left, and_assoc, upd_same, upd_upd, HO.lst.injEq, HO.tup.injEq, atI_0, atI_1, atI_2, atI_3, set_1, set_2, set_3, CDiv, CPow, CMul, List.length_set, Int.reduceToNat, Int.reduceLE, Int.reduceLT, Int.reducePow, Int.reduceNeg, Nat.reduceAdd, Nat.reduceLT, Nat.reduceLeDiff, Nat.reducePow, Nat.zero_add, or_true, true_or, gt_iff_lt, ge_iff_le, and_true, true_and, decide_eq_true_eq, if_true, Bool.false_eq_true, if_false]
          refine ⟨by decide, fun t ht => ?_⟩
          refine ⟨t, k, m, rfl, upd_same, ltF k (List.mem_of_getElem? hk), hm64, fun H3 s3 => ?_⟩
          have s23 : Same H2 H3 := Same.tr (same_new ht) s3
          refine ⟨_, s23 _ _ eD, ?_, ?_, same_out (Same.tr s2 s23) hD⟩
          · rw [List.length_map, List.length_map, List.length_take]
            exact small1000 (by omega)
          · rw [take_s hk, List.map_append]
            show _ = ps (_ ++ [k ^^^ m])
            rw [ps, ps, List.map_append]
            rfl
        · rintro D H2 hD ⟨eD, s2⟩
          rw [show (ps F).length = F.length from List.length_map _, List.take_of_length_le (Nat.le_refl _)] at eD
          refine ⟨f, D, _, _, rfl, rfl, s2 _ _ ef, eD, ?_, fun G hG => ⟨G, rfl, ?_, ?_⟩⟩
          · rw [List.length_map, List.length_map, List.length_map]
            exact sizeLe (by omega)
          · exact Same.tr (Same.tr s1 s2) (same_new hG)
          · rw [upd_same, ps, ps, ps, List.map_append]
    · rintro σ H' ⟨f, v, w, rfl, s1, ef⟩
      rw [show (ps ms).length = ms.length from List.length_map _, List.take_of_length_le (Nat.le_refl _)] at ef
      simp only [tSeq, tAsg, tRet, tRetN, tDrop, tIfS, tNext, tNever, tOp, tUn, tVar, tC, rI0, rI, rU, tTest, tIf, tB, tAnd, tOr, tNot, tAndV, tOrV, tNotV, gName, gSub, gTupH, gCons, gNil, tYes, tCons, tNil, tLst, tTup, tCB, tCall, tMeth, tMake, tFld, sFld, tFor_c, tLc_c, iRng1, iList, iTup, iStr, iSeqB, iEnumB, tM1, tSl, tPart, tNoPart, rSlS, rIxS, tBM, rAppend, tIf, rEq, rNe, scal, hIx, hIxT, hIxB, hSet, hInt, hIntB, hLen, hLenT, hLenB, L2.start, wipe, List.map_cons, List.map_nil, List.set_cons_zero, List.set_cons_succ, List.set_nil, List.length_cons, List.length_nil, List.length_map, List.cons_append, List.nil_append, List.append_nil, List.replicate, List.getElem?_cons_zero, List.getElem?_cons_succ, Option.some.injEq, V.int.injEq, V.bl.injEq, V.ref.injEq, V.str.injEq, List.cons.injEq, exists_eq_left', exists_eq_left, exists_and_left, and_assoc, upd_same, upd_upd, HO.lst.injEq, HO.tup.injEq, atI_0, atI_1, atI_2, atI_3, set_1, set_2, set_3, CDiv, CPow, CMul, List.length_set, Int.reduceToNat, Int.reduceLE, Int.reduceLT, Int.reducePow, Int.reduceNeg, Nat.reduceAdd, Nat.reduceLT, Nat.reduceLeDiff, Nat.reducePow, Nat.zero_add, or_true, true_or, gt_iff_lt, ge_iff_le, and_true, true_and, decide_eq_true_eq, if_true, Bool.false_eq_true, if_false]
      refine ⟨f, (der ms).map pt, rfl, SqL.of (by rw [ef, ps, List.map_map]; rfl), fun ys D hp hs hD => ?_⟩
      exact q ys D _ hp hs (Same.tr s1 (same_new hD)) (s1.free hD) upd_same
end
end AK
set_option Elab.async false
set_option linter.all false
set_option maxRecDepth 100000
set_option maxHeartbeats 4000000
namespace AK
open PySem PySem.Spec PyProof.Rows L2
/-- an int's truth -/
def tTr (K : PySem.W.Frag) (ta : TE) : TT := fun σ H Q => ta σ H fun x H' => ∃ k, TruV K x H' k ∧ Q k H'
/-- a comprehension over enumerate(text) -/
theorem lcEnumS {g : TG} {σ : L2.St} {H : Hp} {tt : TT} {te : TE} {vs : List Nat} {Q : VK} {x : Str} (Pv : Nat → Addr → Hp → Prop) (h0 : ∀ D, H D = none → Pv 0 D (upd H D (.lst [])))
    (hs : ∀ i c t D H', H D = none → (lt x)[i]? = some c → Pv i D H' → H' t = none → g (.ref t) (wipe σ vs) (upd H' t (.tup [.int (i : Nat), .str (tx [c])])) fun σ2 H2 => wipe σ2 vs = wipe σ vs ∧ tt σ2 H2 fun b H3 => if b = true then te σ2 H3 fun y H4 => ∃ acc, H4 D = some (.lst acc) ∧ acc.length < sizeLine ∧ Pv (i + 1) D (upd H4 D (.lst (acc ++ [y]))) else Pv (i + 1) D H3)
    (hd : ∀ D H', H D = none → Pv (lt x).length D H' → Q (.ref D) H') : contL g tt te vs σ Q (IteS x) H := by
  intro D hD
  have hz : (lt x).length = x.cps.size := Array.length_toList ..
  refine ⟨fun i m H' => m = x.cps.size - i ∧ i ≤ x.cps.size ∧ Pv i D H', ⟨x.cps.size, by simp, Nat.zero_le _, h0 D hD⟩, ?_⟩
  rintro i m H' ⟨rfl, hi, p⟩
  by_cases hlt : i < x.cps.size
  · refine .inr ⟨hlt, fun H' => Pv (i + 1) D H', fun H' p' => ⟨x.cps.size - (i + 1), by omega, rfl, hlt, p'⟩, fun y H2 hy => ?_⟩
    obtain ⟨t, c, rfl, ht, rfl, hc⟩ := hy
    exact hs i c t D H' hD (by show x.cps.toList[i]? = some c; rw [Array.getElem?_toList]; exact hc) p ht
  · have e : i = x.cps.size := by omega
    subst e
    exact .inl ⟨Nat.le_refl _, hd D H' hD (by rw [hz]; exact p)⟩
theorem and_nat (m n : Nat) : Builtin.bitAnd (m : Int) (n : Int) = ((m &&& n : Nat) : Int) := by
  rw [bitAnd_pp (Int.natCast_nonneg m) (Int.natCast_nonneg n), Int.toNat_natCast, Int.toNat_natCast]
end AK
set_option Elab.async false
set_option linter.all false
set_option maxRecDepth 100000
set_option maxHeartbeats 4000000
namespace AK
open PySem PySem.Spec PyProof.Rows L2
section
variable {P : Program} {w : World} {K : PySem.W.Frag} {mg : Str → Option Value} {base : Heap} {a : Ads}
theorem pt_pow_all : (List.range 6).all (fun d => decide (pt (2 ^ d) = tx [97 + d] ∧ six[d]? = some (97 + d))) = true := by decide +kernel
theorem pt_pow {d : Nat} (h : d < 6) : pt (2 ^ d) = tx [97 + d] ∧ six[d]? = some (97 + d) := of_decide_eq_true (List.all_eq_true.mp pt_pow_all d (List.mem_range.mpr h))
theorem pt_ne {m : Nat} (h : m < 256) (h0 : m ≠ 0) : pt m ≠ ("" : Str) := fun z => h0 (pt_inj h (by decide) (z.trans pt0))
def spLMsg : Sp := fun vs H Q _ => ∃ (p c : Addr) (n : Nat), vs = [.ref p, .int (n : Int)] ∧ 1 ≤ n ∧ n ≤ 6 ∧ PoolAt H p c ∧ ∀ m H', 0 < m → m < 2 ^ n → Off1 p H H' → PoolAt H' p c → Q (.str (pt m)) H'
theorem ok_law_message (T : Txt K mg a) : FnOk P w K mg base CX0 4 a.a_law_message a.d_law_message ["pool", "variables"] spLMsg := by
  have G_law_take := ok_law_take (P := P) (w := w) (base := base) T
  have G_law_parity := ok_law_parity (P := P) (w := w) (base := base) T
  refine T.F_law_message.ok sc_law_message (fun vs H Q E h => ?_) (fun cdv A outer s H vs Q E hr h => ?_)
  · obtain ⟨_, _, _, rfl, _⟩ := h
    rfl
  · obtain ⟨p, c, n, rfl, n1, n6, hP, q⟩ := h
    refine ⟨_, (pss_cons (ps_set (i := 2) sc_law_message.nd rfl (.inl rfl) (pe_slice sl_str pe_str po_none (po_some (pv 1))))
      (pss_cons (ps_set (i := 3) sc_law_message.nd rfl (.inl rfl) (pe_call G_law_parity (hr.mono (by first | decide | exact Nat.le_refl _ | omega)) (by rfl) T.g_law_parity T.F_law_parity.kp T.b_law_parity .nil pass0 (pa_cons (pv 0) (pa_cons (pv 1) pa_nil))))
      (pss_one (ps_ret (pe_ifExp (pt_cmpR op_ne (pv 3) pe_str (nomark _)) (pv 3) (pe_ix ix_str (pv 2) (pe_call G_law_take (hr.mono (by first | decide | exact Nat.le_refl _ | omega)) (by rfl) T.g_law_take T.F_law_take.kp T.b_law_take .nil pass0 (pa_cons (pv 0) (pa_cons (pv 1) pa_nil))) (fun _ _ => rfl))))))), ?_⟩
    simp only [tSeq, tAsg, tRet, tRetN, tDrop, tIfS, tNext, tNever, tOp, tUn, tVar, tC, rI0, rI, rU, tTest, tIf, tB, tAnd, tOr, tNot, tAndV, tOrV, tNotV, gName, gSub, gTupH, gCons, gNil, tYes, tCons, tNil, tLst, tTup, tCB, tCall, tMeth, tMake, tFld, sFld, tFor_c, tLc_c, iRng1, iList, iTup, iStr, iSeqB, iEnumB, tM1, tSl, tPart, tNoPart, rSlS, rIxS, tBM, rAppend, tIf, rEq, rNe, scal, hIx, hIxT, hIxB, hSet, hInt, hIntB, hLen, hLenT, hLenB, L2.start, wipe, List.map_cons, List.map_nil, List.set_cons_zero, List.set_cons_succ, List.set_nil, List.length_cons, List.length_nil, List.length_map, List.cons_append, List.nil_append, List.append_nil, List.replicate, List.getElem?_cons_zero, List.getElem?_cons_succ, Option.some.injEq, V.int.injEq, V.bl.injEq, V.ref.injEq, V.str.injEq, List.cons.injEq, exists_eq_left', exists_eq_left, exists_and_left, and_assoc, upd_same, upd_upd, HO.lst.injEq, HO.tup.injEq, atI_0, atI_1, atI_2, atI_3, set_1, set_2, set_3, CDiv, CPow, CMul, List.length_set, Int.reduceToNat, Int.reduceLE, Int.reduceLT, Int.reducePow, Int.reduceNeg, Nat.reduceAdd, Nat.reduceLT, Nat.reduceLeDiff, Nat.reducePow, Nat.zero_add, or_true, true_or, gt_iff_lt, ge_iff_le, and_true, true_and, decide_eq_true_eq, if_true, Bool.false_eq_true, if_false]
    refine ⟨by decide +kernel, ?_⟩
    rw [show cutS (Str.ofString "abcdef") none (some (n : Int)) = tx (six.take n) from cut6]
    refine ⟨p, c, n, rfl, hP, fun m H1 hm hmn k1 p1 => ?_⟩
    by_cases h0 : m = 0
    · have e : (!decide ((V.str (pt m)) = V.str (Str.ofString ""))) = false := by
        rw [h0]
        decide +kernel
      refine ⟨rfl, ?_⟩
      rw [e]
      refine iteF ?_
      refine take_pool p1 (by omega) (by omega) fun d H2 d0 d1 k2 _ p2 => ⟨d, rfl, ?_, ?_⟩
      · rw [len_tx, List.length_take]
        exact sizeLe (by simp only [six, List.length_cons, List.length_nil]; omega)
      have hd : d.toNat < 6 := by omega
      obtain ⟨e1, e2⟩ := pt_pow hd
      refine ⟨97 + d.toNat, ?_, ?_⟩
      · rw [← Int.toNat_of_nonneg d0]
        refine atI_nat ?_
        show (six.take n)[d.toNat]? = _
        rw [List.getElem?_take, if_pos (by omega), e2, Int.toNat_natCast]
      · rw [show (⟨#[97 + d.toNat]⟩ : Str) = tx [97 + d.toNat] from rfl, ← e1]
        exact q _ H2 (Nat.two_pow_pos _) (Nat.pow_lt_pow_right (by decide) (by omega)) (k1.tr k2) p2
    · have e : (!decide ((V.str (pt m)) = V.str (Str.ofString ""))) = true := by
        rw [decide_eq_false (fun z => pt_ne (by omega) h0 (V.str.inj z))]
        rfl
      refine ⟨rfl, ?_⟩
      rw [e]
      exact iteT (q m H1 (by omega) (hmn n6) k1 p1)
/-- a message of n variables -/
abbrev okM (n : Nat) (m : Nat) : Prop := 0 < m ∧ m < 2 ^ n
def spSomeM : Sp := fun vs H Q _ => ∃ (p c : Addr) (n mo : Nat), vs = [.ref p, .int (n : Int), .int (mo : Int)] ∧ n ≤ 6 ∧ mo ≤ 100 ∧ PoolAt H p c ∧ ∀ r D H', r.length ≤ mo → (∀ m ∈ r, okM n m) → (n = 0 → r = []) → Off1 p H H' → PoolAt H' p c → H D = none → H' D = some (.lst (ps r)) → Q (.ref D) H'
theorem ok_law_some_messages (T : Txt K mg a) : FnOk P w K mg base CX0 5 a.a_law_some_messages a.d_law_some_messages ["pool", "variables", "most"] spSomeM := by
  have G_law_take := ok_law_take (P := P) (w := w) (base := base) T
  have G_law_message := ok_law_message (P := P) (w := w) (base := base) T
  refine T.F_law_some_messages.ok sc_law_some_messages (fun vs H Q E h => ?_) (fun cdv A outer s H vs Q E hr h => ?_)
  · obtain ⟨_, _, _, _, rfl, _⟩ := h
    rfl
  · obtain ⟨p, c, n, mo, rfl, n6, h100, hP, q⟩ := h
    refine ⟨_, (pss_one (ps_ret (pe_lc (own := [("k", 3)]) (g := gName 3)  rfl sc_law_some_messages.nd (pi_range1 (by rfl) T.z_range (pa_cons (pe_call G_law_take (hr.mono (by first | decide | exact Nat.le_refl _ | omega)) (by rfl) T.g_law_take T.F_law_take.kp T.b_law_take .nil pass0 (pa_cons (pv 0) (pa_cons (pe_op op_add (pv 2) pe_int) pa_nil))) pa_nil)) (blkOk_by (own := [("k", 3)]) (N := sc_law_some_messages_N) (sc := defScope s_law_some_messages) (by decide +kernel)) (fun _ _ _ _ _ => (pg_name (i := 3) sc_law_some_messages.nd rfl (.inl rfl))) (fun _ _ _ _ _ => (pts_one (pt_cmpR op_gt (pv 1) pe_int (nomark _)))) (fun _ _ _ _ _ => (pe_call G_law_message (hr.mono (by first | decide | exact Nat.le_refl _ | omega)) (by rfl) T.g_law_message T.F_law_message.kp T.b_law_message .nil pass0 (pa_cons (pv 0) (pa_cons (pv 1) pa_nil))))))), ?_⟩
    simp only [tSeq, tAsg, tRet, tRetN, tDrop, tIfS, tNext, tNever, tOp, tUn, tVar, tC, rI0, rI, rU, tTest, tIf, tB, tAnd, tOr, tNot, tAndV, tOrV, tNotV, gName, gSub, gTupH, gCons, gNil, tYes, tCons, tNil, tLst, tTup, tCB, tCall, tMeth, tMake, tFld, sFld, tFor_c, tLc_c, iRng1, iList, iTup, iStr, iSeqB, iEnumB, tM1, tSl, tPart, tNoPart, rSlS, rIxS, tBM, rAppend, tIf, rEq, rNe, scal, hIx, hIxT, hIxB, hSet, hInt, hIntB, hLen, hLenT, hLenB, L2.start, wipe, List.map_cons, List.map_nil, List.set_cons_zero, List.set_cons_succ, List.set_nil, List.length_cons, List.length_nil, List.length_map, List.cons_append, List.nil_append, List.append_nil, List.replicate, List.getElem?_cons_zero, List.getElem?_cons_succ, Option.some.injEq, V.int.injEq, V.bl.injEq, V.ref.injEq, V.str.injEq, List.cons.injEq, exists_eq_left', exists_eq_left, exists_and_left, and_assoc, upd_same, upd_upd, HO.lst.injEq, HO.tup.injEq, atI_0, atI_1, atI_2, atI_3, set_1, set_2, set_3, CDiv, CPow, CMul, List.length_set, Int.reduceToNat, Int.reduceLE, Int.reduceLT, Int.reducePow, Int.reduceNeg, Nat.reduceAdd, Nat.reduceLT, Nat.reduceLeDiff, Nat.reducePow, Nat.zero_add, or_true, true_or, gt_iff_lt, ge_iff_le, and_true, true_and, decide_eq_true_eq, if_true, Bool.false_eq_true, if_false]
    refine take_pool hP (by omega) (by omega) fun d H1 d0 d1 k1 _ p1 => ?_
    refine ⟨d, rfl, by omega, by omega, ?_⟩
    refine lcRng (fun i D H' => ∃ r : List Nat, H' D = some (.lst (ps r)) ∧ r.length ≤ i ∧ (∀ m ∈ r, okM n m) ∧ (n = 0 → r = []) ∧ Off1 p H1 H' ∧ PoolAt H' p c) ?_ ?_ ?_
    · intro D hD
      exact ⟨[], upd_same, Nat.le_refl _, fun m h => absurd h List.not_mem_nil, fun _ => rfl, Off1.refl.new hD, p1.new hD⟩
    · rintro i D H2 hD hi ⟨r, eD, rl, rm, r0, k2, p2⟩
      refine ⟨rfl, ?_⟩
      simp only [tSeq, tAsg, tRet, tRetN, tDrop, tIfS, tNext, tNever, tOp, tUn, tVar, tC, rI0, rI, rU, tTest, tIf, tB, tAnd, tOr, tNot, tAndV, tOrV, tNotV, gName, gSub, gTupH, gCons, gNil, tYes, tCons, tNil, tLst, tTup, tCB, tCall, tMeth, tMake, tFld, sFld, tFor_c, tLc_c, iRng1, iList, iTup, iStr, iSeqB, iEnumB, tM1, tSl, tPart, tNoPart, rSlS, rIxS, tBM, rAppend, tIf, rEq, rNe, scal, hIx, hIxT, hIxB, hSet, hInt, hIntB, hLen, hLenT, hLenB, L2.start, wipe, List.map_cons, List.map_nil, List.set_cons_zero, List.set_cons_succ, List.set_nil, List.length_cons, List.length_nil, List.length_map, List.cons_append, List.nil_append, List.append_nil, List.replicate, List.getElem?_cons_zero, List.getElem?_cons_succ, Option.some.injEq, V.int.injEq, V.bl.injEq, V.ref.injEq, V.str.injEq, List.cons.injEq, exists_eq_left', exists_eq_left, exists_and_left, and_assoc, upd_same, upd_upd, HO.lst.injEq, HO.tup.injEq, atI_0, atI_1, atI_2, atI_3, set_1, set_2, set_3, CDiv, CPow, CMul, List.length_set, Int.reduceToNat, Int.reduceLE, Int.reduceLT, Int.reducePow, Int.reduceNeg, Nat.reduceAdd, Nat.reduceLT, Nat.reduceLeDiff, Nat.reducePow, Nat.zero_add, or_true, true_or, gt_iff_lt, ge_iff_le, and_true, true_and, decide_eq_true_eq, if_true, Bool.false_eq_true, if_false]
      refine ite2 (fun hn => ⟨p, c, n, rfl, by omega, n6, p2, fun m H3 hm1 hm2 k3 p3 => ?_⟩) fun hn => ⟨r, eD, by omega, rm, r0, k2, p2⟩
      · refine ⟨_, k3 _ _ (p1.ne_p hD) eD, ?_, r ++ [m], by rw [ps, ps, List.map_append]; rfl, by rw [List.length_append]; exact Nat.succ_le_succ rl, ?_, fun z => absurd hn (by omega), (k2.tr k3).wr hD, p3.wr (p1.ne_p hD) (p1.ne_c hD)⟩
        · rw [List.length_map]
          exact small1000 (by omega)
        · intro x hx
          rcases List.mem_append.mp hx with z | z
          · exact rm x z
          · rw [List.mem_singleton.mp z]
            exact ⟨hm1, hm2⟩
    · rintro D H2 hD ⟨r, eD, rl, rm, r0, k2, p2⟩
      exact q r D H2 (by omega) rm r0 (k1.tr k2) p2 (k1.fresh p1 hD) eD
end
end AK
set_option Elab.async false
set_option linter.all false
set_option maxRecDepth 100000
set_option maxHeartbeats 4000000
namespace AK
open PySem PySem.Spec PyProof.Rows L2
/-- a link between the nodes of these numbers -/
def lkt (l : Nat × Nat) : Str := tx [65 + l.1, 65 + l.2]
abbrev lks (ls : List (Nat × Nat)) : List V := ls.map fun l => V.str (lkt l)
abbrev netKV (n : Nat) (an al : Addr) : List (L2.Key × V) := [(.inr "variables", .int (n : Int)), (.inr "nodes", .ref an), (.inr "links", .ref al)]
/-- a list of lists, at q -/
structure RowsL (H : Hp) (q : Addr) (rows : List (List V)) : Prop where
  ex : ∃ as : List Addr, H q = some (.lst (as.map V.ref)) ∧ as.length = rows.length ∧ (∀ t ∈ as, t ≠ q) ∧ ∀ (i : Nat) (r : List V) (t : Addr), rows[i]? = some r → as[i]? = some t → H t = some (.lst r)
theorem RowsL.same {H H' : Hp} {q : Addr} {rows : List (List V)} (h : RowsL H q rows) (s : Same H H') : RowsL H' q rows := by
  obtain ⟨as, h1, h2, h3, h4⟩ := h.ex
  exact ⟨as, s _ _ h1, h2, h3, fun i r t e1 e2 => s _ _ (h4 i r t e1 e2)⟩
theorem RowsL.nil {H : Hp} {q : Addr} (h : H q = some (.lst [])) : RowsL H q [] := ⟨[], h, rfl, fun t ht => absurd ht List.not_mem_nil, fun i r t e => by cases e⟩
/-- one row more -/
theorem RowsL.add {H : Hp} {q t : Addr} {rows : List (List V)} {r xs : List V} (h : RowsL H q rows) (e : H q = some (.lst xs)) (hn : t ≠ q) (ht : H t = some (.lst r)) : RowsL (upd H q (.lst (xs ++ [.ref t]))) q (rows ++ [r]) := by
  obtain ⟨as, h1, h2, h3, h4⟩ := h.ex
  rw [e] at h1
  have ex := HO.lst.inj (Option.some.inj h1)
  subst ex
  refine ⟨as ++ [t], ?_, ?_, ?_, ?_⟩
  · rw [upd_same, List.map_append]
    rfl
  · rw [List.length_append, List.length_append, h2]
    rfl
  · intro x hx
    rcases List.mem_append.mp hx with z | z
    · exact h3 x z
    · rw [List.mem_singleton.mp z]
      exact hn
  · intro i x y hx hy
    by_cases hi : i < rows.length
    · rw [List.getElem?_append_left hi] at hx
      rw [List.getElem?_append_left (by omega)] at hy
      rw [upd_ne (h3 y (List.mem_of_getElem? hy))]
      exact h4 i x y hx hy
    · rw [List.getElem?_append_right (by omega)] at hx hy
      have hz : i - rows.length = 0 := by
        have := (List.getElem?_eq_some_iff.mp hx).1
        simp only [List.length_cons, List.length_nil] at this
        omega
      rw [h2, hz] at hy
      rw [hz] at hx
      cases hx
      cases hy
      rw [upd_ne hn]
      exact ht
theorem RowsL.len {H : Hp} {q : Addr} {rows : List (List V)} {xs : List V} (h : RowsL H q rows) (e : H q = some (.lst xs)) : xs.length = rows.length := by
  obtain ⟨as, h1, h2, _⟩ := h.ex
  rw [e] at h1
  rw [HO.lst.inj (Option.some.inj h1), List.length_map, h2]
/-- a network of the law at d -/
structure DNet (H : Hp) (d : Addr) (n : Nat) (rows : List (List Nat)) (ls : List (Nat × Nat)) : Prop where
  ex : ∃ an al : Addr, H d = some (.dK (netKV n an al)) ∧ RowsL H an (rows.map ps) ∧ H al = some (.lst (lks ls))
/-- its bounds -/
structure OkN (n : Nat) (rows : List (List Nat)) (ls : List (Nat × Nat)) (nodes links : Nat) : Prop where
  v : n ≤ 4
  r1 : 1 ≤ rows.length
  r2 : rows.length ≤ nodes
  m : ∀ r ∈ rows, r.length ≤ 4 ∧ ∀ m ∈ r, okM n m
  l : ls.length ≤ links
  k : ∀ l ∈ ls, l.1 < rows.length ∧ l.2 < rows.length ∧ l.1 ≠ l.2
theorem PoolAt.ne_strs {H : Hp} {p c t : Addr} {xs : List Str} (h : PoolAt H p c) (e : H t = some (.lst (xs.map V.str))) : t ≠ p := fun z => by
  obtain ⟨cells, i, d, x, e1, _⟩ := h.ex
  rw [z, e1] at e
  have e2 := HO.lst.inj (Option.some.inj e)
  cases xs with
  | nil => cases e2
  | cons y r => cases e2
theorem PoolAt.ne_refs {H : Hp} {p c t : Addr} {as : List Addr} (h : PoolAt H p c) (e : H t = some (.lst (as.map V.ref))) : t ≠ p := fun z => by
  obtain ⟨cells, i, d, x, e1, _⟩ := h.ex
  rw [z, e1] at e
  have e2 := HO.lst.inj (Option.some.inj e)
  cases as with
  | nil => cases e2
  | cons y r => cases r with
    | nil => cases e2
    | cons u r => cases e2
theorem PoolAt.ne_dict {H : Hp} {p c t : Addr} {kvs : List (L2.Key × V)} (h : PoolAt H p c) (e : H t = some (.dK kvs)) : t ≠ p := fun z => by
  obtain ⟨cells, i, d, x, e1, _⟩ := h.ex
  rw [z, e1] at e
  cases e
theorem ps_strs (r : List Nat) : ps r = (r.map pt).map V.str := by rw [ps, List.map_map]; rfl
theorem lks_strs (r : List (Nat × Nat)) : lks r = (r.map lkt).map V.str := by rw [lks, List.map_map]; rfl
theorem RowsL.off {H H' : Hp} {p c q : Addr} {rows : List (List Nat)} (h : RowsL H q (rows.map ps)) (k : PoolAt H p c) (s : Off1 p H H') : RowsL H' q (rows.map ps) := by
  obtain ⟨as, h1, h2, h3, h4⟩ := h.ex
  refine ⟨as, s _ _ (k.ne_refs h1) h1, h2, h3, fun i r t e1 e2 => ?_⟩
  have z := h4 i r t e1 e2
  obtain ⟨r0, _, rfl⟩ := map_at e1
  exact s _ _ (k.ne_strs (by rw [← ps_strs]; exact z)) z
theorem DNet.same {H H' : Hp} {d : Addr} {n : Nat} {rows : List (List Nat)} {ls : List (Nat × Nat)} (h : DNet H d n rows ls) (s : Same H H') : DNet H' d n rows ls := by
  obtain ⟨an, al, h1, h2, h5⟩ := h.ex
  exact ⟨an, al, s _ _ h1, h2.same s, s _ _ h5⟩
theorem DNet.off {H H' : Hp} {p c d : Addr} {n : Nat} {rows : List (List Nat)} {ls : List (Nat × Nat)} (h : DNet H d n rows ls) (k : PoolAt H p c) (s : Off1 p H H') : DNet H' d n rows ls := by
  obtain ⟨an, al, h1, h2, h5⟩ := h.ex
  exact ⟨an, al, s _ _ (k.ne_dict h1) h1, h2.off k s, s _ _ (k.ne_strs (by rw [← lks_strs]; exact h5)) h5⟩
theorem AN6 : lt ("ABCDEF" : Str) = AN.take 6 := by decide +kernel
theorem cutN {k : Nat} (h : k ≤ 6) : cutS ("ABCDEF" : Str) none (some (k : Int)) = tx (AN.take k) := by
  rw [cut_take, AN6, List.take_take, Nat.min_eq_left h]
theorem AN_at_all : (List.range 26).all (fun k => decide (AN[k]? = some (65 + k))) = true := by decide +kernel
theorem AN_at {k : Nat} (h : k < 26) : AN[k]? = some (65 + k) := of_decide_eq_true (List.all_eq_true.mp AN_at_all k (List.mem_range.mpr h))
theorem ANt_at {k m : Nat} (h : k < m) (hm : m ≤ 26) : (AN.take m)[k]? = some (65 + k) := by
  rw [List.getElem?_take, if_pos h]
  exact AN_at (by omega)
theorem wrapN {m s t : Int} (hm : 2 ≤ m) (s0 : 0 ≤ s) (s1 : s < m) (t0 : 0 ≤ t) (t1 : t < m - 1) : 0 ≤ (s + 1 + t) % m ∧ (s + 1 + t) % m < m ∧ (s + 1 + t) % m ≠ s := by
  refine ⟨Int.emod_nonneg _ (by omega), Int.emod_lt_of_pos _ (by omega), ?_⟩
  by_cases h : s + 1 + t < m
  · rw [Int.emod_eq_of_lt (by omega) h]
    omega
  · have e : s + 1 + t = (s + 1 + t - m) + m * 1 := by omega
    rw [e, Int.add_mul_emod_self_left, Int.emod_eq_of_lt (by omega) (by omega)]
    omega
theorem kk1 : ¬ Str.ofString "variables" = Str.ofString "nodes" := by decide +kernel
theorem kk2 : ¬ Str.ofString "variables" = Str.ofString "links" := by decide +kernel
theorem kk3 : ¬ Str.ofString "nodes" = Str.ofString "links" := by decide +kernel
theorem mergeN (n : Nat) (D al : Addr) : mergeK [] [((.inr "variables" : L2.Key), V.int (n : Int)), (.inr "nodes", .ref D), (.inr "links", .ref al)] = netKV n D al := by
  simp [mergeK, putK, kk1, kk2, kk3]
section
variable {P : Program} {w : World} {K : PySem.W.Frag} {mg : Str → Option Value} {base : Heap} {a : Ads}
def spDrawn : Sp := fun vs H Q _ => ∃ (p c : Addr) (nodes links : Nat), vs = [.ref p, .int (nodes : Int), .int (links : Int)] ∧ 1 ≤ nodes ∧ nodes ≤ 6 ∧ links ≤ 16 ∧ PoolAt H p c ∧ ∀ n rows ls d H', OkN n rows ls nodes links → Off1 p H H' → PoolAt H' p c → H d = none → DNet H' d n rows ls → Q (.ref d) H'
theorem ok_law_drawn (T : Txt K mg a) : FnOk P w K mg base CX0 6 a.a_law_drawn a.d_law_drawn ["pool", "nodes", "links"] spDrawn := by
  have G_law_take := ok_law_take (P := P) (w := w) (base := base) T
  have G_law_some_messages := ok_law_some_messages (P := P) (w := w) (base := base) T
  refine T.F_law_drawn.ok sc_law_drawn (fun vs H Q E h => ?_) (fun cdv A outer s H vs Q E hr h => ?_)
  · obtain ⟨_, _, _, _, rfl, _⟩ := h
    rfl
  · obtain ⟨p, c, nodes, links, rfl, n1, n6, l16, hP, q⟩ := h
    refine ⟨_, (pss_cons (ps_set (i := 3) sc_law_drawn.nd rfl (.inr rfl) (pe_call G_law_take (hr.mono (by first | decide | exact Nat.le_refl _ | omega)) (by rfl) T.g_law_take T.F_law_take.kp T.b_law_take .nil pass0 (pa_cons (pv 0) (pa_cons pe_int pa_nil))))
      (pss_cons (ps_setLc (i := 4) (own := [("k", 7)]) (g := gName 7) (tt := tYes) rfl sc_law_drawn.nd rfl rfl (sw_true rfl rfl rfl (by decide +kernel)) (pi_range1 (by rfl) T.z_range (pa_cons (pe_op op_add pe_int (pe_call G_law_take (hr.mono (by first | decide | exact Nat.le_refl _ | omega)) (by rfl) T.g_law_take T.F_law_take.kp T.b_law_take .nil pass0 (pa_cons (pv 0) (pa_cons (pv 1) pa_nil)))) pa_nil)) (blkOk_by (own := [("k", 7)]) (N := sc_law_drawn_N) (sc := defScope s_law_drawn) (by decide +kernel)) (fun _ _ _ _ _ => (pg_name (i := 7) sc_law_drawn.nd rfl (.inl rfl))) (fun _ _ _ _ _ => pts_nil) (fun _ _ _ _ _ => (pe_call G_law_some_messages (hr.mono (by first | decide | exact Nat.le_refl _ | omega)) (by rfl) T.g_law_some_messages T.F_law_some_messages.kp T.b_law_some_messages .nil pass0 (pa_cons (pv 0) (pa_cons (pv 3) (pa_cons (pe_ix ixHT (pe_tup (pa_cons pe_int (pa_cons pe_int (pa_cons pe_int pa_nil)))) (pe_call G_law_take (hr.mono (by first | decide | exact Nat.le_refl _ | omega)) (by rfl) T.g_law_take T.F_law_take.kp T.b_law_take .nil pass0 (pa_cons (pv 0) (pa_cons pe_int pa_nil))) (fun _ _ => rfl)) pa_nil))))))
      (pss_cons (ps_set (i := 5) sc_law_drawn.nd rfl (.inl rfl) (pe_slice sl_str pe_str po_none (po_some (pe_callB callLen (by rfl) T.z_len PySem.boot_len (pa_cons (pv 4) pa_nil)))))
      (pss_cons (ps_set (i := 6) sc_law_drawn.nd rfl (.inl rfl) (pe_lst pa_nil))
      (pss_cons (ps_for PassesOwn.never rfl (pi_range1 (by rfl) T.z_range (pa_cons (pe_call G_law_take (hr.mono (by first | decide | exact Nat.le_refl _ | omega)) (by rfl) T.g_law_take T.F_law_take.kp T.b_law_take .nil pass0 (pa_cons (pv 0) (pa_cons (pe_op op_add (pv 2) pe_int) pa_nil))) pa_nil)) (pg_name (i := 7) sc_law_drawn.nd rfl (.inl rfl))
      (pss_one (ps_if (pt_cmpR op_gt (pe_callB callLen (by rfl) T.z_len PySem.boot_len (pa_cons (pv 4) pa_nil)) pe_int (nomark _))
      (pss_cons (ps_set (i := 8) sc_law_drawn.nd rfl (.inl rfl) (pe_call G_law_take (hr.mono (by first | decide | exact Nat.le_refl _ | omega)) (by rfl) T.g_law_take T.F_law_take.kp T.b_law_take .nil pass0 (pa_cons (pv 0) (pa_cons (pe_callB callLen (by rfl) T.z_len PySem.boot_len (pa_cons (pv 4) pa_nil)) pa_nil))))
      (pss_cons (ps_set (i := 9) sc_law_drawn.nd rfl (.inl rfl) (pe_op op_mod (pe_op op_add (pe_op op_add (pv 8) pe_int) (pe_call G_law_take (hr.mono (by first | decide | exact Nat.le_refl _ | omega)) (by rfl) T.g_law_take T.F_law_take.kp T.b_law_take .nil pass0 (pa_cons (pv 0) (pa_cons (pe_op op_sub (pe_callB callLen (by rfl) T.z_len PySem.boot_len (pa_cons (pv 4) pa_nil)) pe_int) pa_nil)))) (pe_callB callLen (by rfl) T.z_len PySem.boot_len (pa_cons (pv 4) pa_nil))))
      (pss_one (ps_expr (pe_bm PySem.F.plainAttrs_list PySem.F.slot_list_append PySem.F.type_list_append mt_append (pv 6) (pa_cons (pe_op op_add_str (pe_ix ix_str (pv 5) (pv 8) (fun _ _ => rfl)) (pe_ix ix_str (pv 5) (pv 9) (fun _ _ => rfl))) pa_nil))))))
      pss_nil)))
      (pss_one (ps_ret (pe_disp (pps_cons pe_str (pv 3) (pps_cons pe_str (pv 4) (pps_cons pe_str (pv 6) pps_nil))) (by rfl) (by rfl) (fun z => by cases z) (by decide))))))))), ?_⟩
    simp only [tSeq, tAsg, tRet, tRetN, tDrop, tIfS, tNext, tNever, tOp, tUn, tVar, tC, rI0, rI, rU, tTest, tIf, tB, tAnd, tOr, tNot, tAndV, tOrV, tNotV, gName, gSub, gTupH, gCons, gNil, tYes, tCons, tNil, tLst, tTup, tCB, tCall, tMeth, tMake, tFld, sFld, tFor_c, tLc_c, iRng1, iList, iTup, iStr, iSeqB, iEnumB, tM1, tSl, tPart, tNoPart, rSlS, rIxS, tBM, rAppend, tIf, rEq, rNe, scal, hIx, hIxT, hIxB, hSet, hInt, hIntB, hLen, hLenT, hLenB, L2.start, wipe, List.map_cons, List.map_nil, List.set_cons_zero, List.set_cons_succ, List.set_nil, List.length_cons, List.length_nil, List.length_map, List.cons_append, List.nil_append, List.append_nil, List.replicate, List.getElem?_cons_zero, List.getElem?_cons_succ, Option.some.injEq, V.int.injEq, V.bl.injEq, V.ref.injEq, V.str.injEq, List.cons.injEq, exists_eq_left', exists_eq_left, exists_and_left, and_assoc, upd_same, upd_upd, HO.lst.injEq, HO.tup.injEq, atI_0, atI_1, atI_2, atI_3, set_1, set_2, set_3, CDiv, CPow, CMul, List.length_set, Int.reduceToNat, Int.reduceLE, Int.reduceLT, Int.reducePow, Int.reduceNeg, Nat.reduceAdd, Nat.reduceLT, Nat.reduceLeDiff, Nat.reducePow, Nat.zero_add, or_true, true_or, gt_iff_lt, ge_iff_le, and_true, true_and, decide_eq_true_eq, if_true, Bool.false_eq_true, if_false]
    refine take_pool hP (by decide) (by decide) fun n H1 d0 d1 k1 _ p1 => ?_
    obtain ⟨n, rfl⟩ := Int.eq_ofNat_of_zero_le d0
    refine take_pool p1 (by omega) (by omega) fun x H2 x0 x1 k2 _ p2 => ⟨x, rfl, by omega, by omega, ?_⟩
    obtain ⟨x, rfl⟩ := Int.eq_ofNat_of_zero_le x0
    have en : (1 + (x : Int)).toNat = x + 1 := by omega
    rw [en]
    refine lcRng (fun i D H' => ∃ rows : List (List Nat), RowsL H' D (rows.map ps) ∧ rows.length = i ∧ (∀ r ∈ rows, r.length ≤ 4 ∧ ∀ m ∈ r, okM n m) ∧ Off1 p H2 H' ∧ PoolAt H' p c) ?_ ?_ ?_
    · intro D hD
      exact ⟨[], RowsL.nil upd_same, rfl, fun r hr => absurd hr List.not_mem_nil, Off1.refl.new hD, p2.new hD⟩
    · rintro i D H3 hD hi ⟨rows, hR, hl, hok, k3, p3⟩
      refine ⟨rfl, ?_⟩
      simp only [tSeq, tAsg, tRet, tRetN, tDrop, tIfS, tNext, tNever, tOp, tUn, tVar, tC, rI0, rI, rU, tTest, tIf, tB, tAnd, tOr, tNot, tAndV, tOrV, tNotV, gName, gSub, gTupH, gCons, gNil, tYes, tCons, tNil, tLst, tTup, tCB, tCall, tMeth, tMake, tFld, sFld, tFor_c, tLc_c, iRng1, iList, iTup, iStr, iSeqB, iEnumB, tM1, tSl, tPart, tNoPart, rSlS, rIxS, tBM, rAppend, tIf, rEq, rNe, scal, hIx, hIxT, hIxB, hSet, hInt, hIntB, hLen, hLenT, hLenB, L2.start, wipe, List.map_cons, List.map_nil, List.set_cons_zero, List.set_cons_succ, List.set_nil, List.length_cons, List.length_nil, List.length_map, List.cons_append, List.nil_append, List.append_nil, List.replicate, List.getElem?_cons_zero, List.getElem?_cons_succ, Option.some.injEq, V.int.injEq, V.bl.injEq, V.ref.injEq, V.str.injEq, List.cons.injEq, exists_eq_left', exists_eq_left, exists_and_left, and_assoc, upd_same, upd_upd, HO.lst.injEq, HO.tup.injEq, atI_0, atI_1, atI_2, atI_3, set_1, set_2, set_3, CDiv, CPow, CMul, List.length_set, Int.reduceToNat, Int.reduceLE, Int.reduceLT, Int.reducePow, Int.reduceNeg, Nat.reduceAdd, Nat.reduceLT, Nat.reduceLeDiff, Nat.reducePow, Nat.zero_add, or_true, true_or, gt_iff_lt, ge_iff_le, and_true, true_and, decide_eq_true_eq, if_true, Bool.false_eq_true, if_false]
      refine ⟨by decide, fun b hb => ?_⟩
      refine take_pool (p3.new hb) (by decide) (by decide) fun k H4 k0 k1' k4 _ p4 => ?_
      have hDb : b ≠ D := fun z => by
        obtain ⟨as, e1, _⟩ := hR.ex
        rw [z, e1] at hb
        cases hb
      have s3 := same_new (o := .tup [V.int 1, V.int 2, V.int 4]) hb
      have k34 : Off1 p H3 H4 := (Off1.of s3).tr k4
      have hmo : ∃ mo : Nat, atI [V.int 1, V.int 2, V.int 4] k = some (.int (mo : Int)) ∧ mo ≤ 4 := by
        rcases (show k = 0 ∨ k = 1 ∨ k = 2 by omega) with rfl | rfl | rfl
        · exact ⟨1, atI_0, by decide⟩
        · exact ⟨2, atI_1, by decide⟩
        · exact ⟨4, atI_2, by decide⟩
      obtain ⟨mo, hmo, hm4⟩ := hmo
      refine ⟨_, k, rfl, k4 _ _ (p3.ne_p hb) upd_same, _, hmo, p, c, n, mo, rfl, by omega, by omega, p4, fun r u H5 rl rm r0 k5 p5 hu eu => ?_⟩
      have k35 : Off1 p H3 H5 := k34.tr k5
      have hR5 : RowsL H5 D (rows.map ps) := hR.off p3 k35
      obtain ⟨as, e1, e2, _⟩ := hR5.ex
      have huD : u ≠ D := fun z => by
        obtain ⟨as', e1', _⟩ := (hR.off p3 k34).ex
        rw [z, e1'] at hu
        cases hu
      refine ⟨_, e1, ?_, rows ++ [r], ?_, by rw [List.length_append, hl]; rfl, ?_, (k3.tr k35).wr hD, p5.wr (p2.ne_p hD) (p2.ne_c hD)⟩
      · rw [List.length_map, e2, List.length_map]
        exact small1000 (by omega)
      · rw [List.map_append]
        exact hR5.add e1 huD eu
      · intro y hy
        rcases List.mem_append.mp hy with z | z
        · exact hok y z
        · rw [List.mem_singleton.mp z]
          exact ⟨by omega, rm⟩
    · rintro D H3 hD ⟨rows, hR, hl, hok, k3, p3⟩
      obtain ⟨as, e1, e2, e3, e4⟩ := hR.ex
      refine ⟨D, rfl, _, e1, by decide +kernel, Nat.zero_le _, fun al hal => ?_⟩
      have el : as.length = x + 1 := by rw [e2, List.length_map, hl]
      have e65 : cutS (Str.ofString "ABCDEF") none (some ((as.map V.ref).length : Int)) = tx (AN.take (x + 1)) := by
        rw [List.length_map, el]
        exact cutN (by omega)
      rw [e65]
      have alp : al ≠ p := p3.ne_p hal
      have alD : al ≠ D := fun z => by
        rw [z, e1] at hal
        cases hal
      refine take_pool (p3.new hal) (by omega) (by omega) fun m H4 m0 m1 k4 _ p4 => ⟨m, rfl, by omega, by omega, ?_⟩
      obtain ⟨m, rfl⟩ := Int.eq_ofNat_of_zero_le m0
      rw [Int.toNat_natCast]
      have k34 : Off1 p H3 H4 := (Off1.of (same_new hal)).tr k4
      refine forRng (fun i σ H' => (∃ v7 v8 v9, σ = [some (.ref p), some (.int nodes), some (.int links), some (.int n), some (.ref D), some (.str (tx (AN.take (x + 1)))), some (.ref al), v7, v8, v9]) ∧ ∃ ls : List (Nat × Nat), H' al = some (.lst (lks ls)) ∧ ls.length ≤ i ∧ (∀ l ∈ ls, l.1 < x + 1 ∧ l.2 < x + 1 ∧ l.1 ≠ l.2) ∧ Off1 p H3 H' ∧ PoolAt H' p c) ?_ ?_ ?_
      · exact ⟨⟨_, _, _, rfl⟩, [], k4 _ _ alp upd_same, Nat.le_refl _, fun l h => absurd h List.not_mem_nil, k34, p4⟩
      · rintro i σ H5 hi ⟨⟨v7, v8, v9, rfl⟩, ls, eal, ll, lok, k5, p5⟩
        simp only [tSeq, tAsg, tRet, tRetN, tDrop, tIfS, tNext, tNever, tOp, tUn, tVar, tC, rI0, rI, rU, tTest, tIf, tB, tAnd, tOr, tNot, tAndV, tOrV, tNotV, gName, gSub, gTupH, gCons, gNil, tYes, tCons, tNil, tLst, tTup, tCB, tCall, tMeth, tMake, tFld, sFld, tFor_c, tLc_c, iRng1, iList, iTup, iStr, iSeqB, iEnumB, tM1, tSl, tPart, tNoPart, rSlS, rIxS, tBM, rAppend, tIf, rEq, rNe, scal, hIx, hIxT, hIxB, hSet, hInt, hIntB, hLen, hLenT, hLenB, L2.start, wipe, List.map_cons, List.map_nil, List.set_cons_zero, List.set_cons_succ, List.set_nil, List.length_cons, List.length_nil, List.length_map, List.cons_append, List.nil_append, List.append_nil, List.replicate, List.getElem?_cons_zero, List.getElem?_cons_succ, Option.some.injEq, V.int.injEq, V.bl.injEq, V.ref.injEq, V.str.injEq, List.cons.injEq, exists_eq_left', exists_eq_left, exists_and_left, and_assoc, upd_same, upd_upd, HO.lst.injEq, HO.tup.injEq, atI_0, atI_1, atI_2, atI_3, set_1, set_2, set_3, CDiv, CPow, CMul, List.length_set, Int.reduceToNat, Int.reduceLE, Int.reduceLT, Int.reducePow, Int.reduceNeg, Nat.reduceAdd, Nat.reduceLT, Nat.reduceLeDiff, Nat.reducePow, Nat.zero_add, or_true, true_or, gt_iff_lt, ge_iff_le, and_true, true_and, decide_eq_true_eq, if_true, Bool.false_eq_true, if_false]
        have hDp : D ≠ p := p2.ne_p hD
        have hlen : ((as.map V.ref).length : Int) = ((x + 1 : Nat) : Int) := by rw [List.length_map, el]
        refine ⟨_, k5 _ _ hDp e1, ?_⟩
        rw [hlen]
        refine ite2 (fun hx => ?_) fun hx => ⟨⟨_, rfl⟩, ls, eal, by omega, lok, k5, p5⟩
        refine ⟨_, k5 _ _ hDp e1, ?_⟩
        rw [hlen]
        refine take_pool p5 (by omega) (by omega) fun s1 H6 s0 s1' k6 _ p6 => ⟨s1, rfl, _, (k5.tr k6) _ _ hDp e1, ?_⟩
        rw [hlen]
        refine take_pool p6 (by omega) (by omega) fun s2 H7 t0 t1 k7 _ p7 => ⟨s2, rfl, _, ((k5.tr k6).tr k7) _ _ hDp e1, ?_⟩
        rw [hlen]
        have eal7 := k7 _ _ alp (k6 _ _ alp eal)
        obtain ⟨u0, u1, u2⟩ := wrapN (m := ((x + 1 : Nat) : Int)) (by omega) s0 s1' t0 t1
        generalize (s1 + 1 + s2) % ((x + 1 : Nat) : Int) = r at u0 u1 u2 ⊢
        obtain ⟨s1, rfl⟩ := Int.eq_ofNat_of_zero_le s0
        obtain ⟨r, rfl⟩ := Int.eq_ofNat_of_zero_le u0
        have lx : (tx (AN.take (x + 1))).length ≤ sizeLine := by
          rw [len_tx, List.length_take]
          exact sizeLe (by omega)
        have hi1 : (AN.take (x + 1))[s1]? = some (65 + s1) := ANt_at (by omega) (by omega)
        have hi2 : (AN.take (x + 1))[r]? = some (65 + r) := ANt_at (by omega) (by omega)
        refine ⟨by omega, .inl ⟨rfl, _, SqL.of eal7⟩, (s1 : Int), rfl, lx, 65 + s1, atI_nat hi1, lx, 65 + r, atI_nat hi2, Nat.le_of_ble_eq_true rfl, _, eal7, by rw [List.length_map]; exact small1000 (by omega), ⟨_, rfl⟩, ls ++ [(s1, r)], by rw [lks, lks, List.map_append]; rfl, by rw [List.length_append]; exact Nat.succ_le_succ ll, ?_, ((k5.tr k6).tr k7).wr hal, p7.wr alp (p3.ne_c hal)⟩
        intro l hl
        rcases List.mem_append.mp hl with z | z
        · exact lok l z
        · rw [List.mem_singleton.mp z]
          exact ⟨by omega, by omega, fun z => u2 (by exact_mod_cast z.symm)⟩
      · rintro σ H5 ⟨⟨v7, v8, v9, rfl⟩, ls, eal, ll, lok, k5, p5⟩
        simp only [tSeq, tAsg, tRet, tRetN, tDrop, tIfS, tNext, tNever, tOp, tUn, tVar, tC, rI0, rI, rU, tTest, tIf, tB, tAnd, tOr, tNot, tAndV, tOrV, tNotV, gName, gSub, gTupH, gCons, gNil, tYes, tCons, tNil, tLst, tTup, tCB, tCall, tMeth, tMake, tFld, sFld, tFor_c, tLc_c, iRng1, iList, iTup, iStr, iSeqB, iEnumB, tM1, tSl, tPart, tNoPart, rSlS, rIxS, tBM, rAppend, tIf, rEq, rNe, scal, hIx, hIxT, hIxB, hSet, hInt, hIntB, hLen, hLenT, hLenB, L2.start, wipe, List.map_cons, List.map_nil, List.set_cons_zero, List.set_cons_succ, List.set_nil, List.length_cons, List.length_nil, List.length_map, List.cons_append, List.nil_append, List.append_nil, List.replicate, List.getElem?_cons_zero, List.getElem?_cons_succ, Option.some.injEq, V.int.injEq, V.bl.injEq, V.ref.injEq, V.str.injEq, List.cons.injEq, exists_eq_left', exists_eq_left, exists_and_left, and_assoc, upd_same, upd_upd, HO.lst.injEq, HO.tup.injEq, atI_0, atI_1, atI_2, atI_3, set_1, set_2, set_3, CDiv, CPow, CMul, List.length_set, Int.reduceToNat, Int.reduceLE, Int.reduceLT, Int.reducePow, Int.reduceNeg, Nat.reduceAdd, Nat.reduceLT, Nat.reduceLeDiff, Nat.reducePow, Nat.zero_add, or_true, true_or, gt_iff_lt, ge_iff_le, and_true, true_and, decide_eq_true_eq, if_true, Bool.false_eq_true, if_false]
        intro d hd
        have s6 := same_new (o := .dK []) hd
        simp only [tPairs]
        simp only [tSeq, tAsg, tRet, tRetN, tDrop, tIfS, tNext, tNever, tOp, tUn, tVar, tC, rI0, rI, rU, tTest, tIf, tB, tAnd, tOr, tNot, tAndV, tOrV, tNotV, gName, gSub, gTupH, gCons, gNil, tYes, tCons, tNil, tLst, tTup, tCB, tCall, tMeth, tMake, tFld, sFld, tFor_c, tLc_c, iRng1, iList, iTup, iStr, iSeqB, iEnumB, tM1, tSl, tPart, tNoPart, rSlS, rIxS, tBM, rAppend, tIf, rEq, rNe, scal, hIx, hIxT, hIxB, hSet, hInt, hIntB, hLen, hLenT, hLenB, L2.start, wipe, List.map_cons, List.map_nil, List.set_cons_zero, List.set_cons_succ, List.set_nil, List.length_cons, List.length_nil, List.length_map, List.cons_append, List.nil_append, List.append_nil, List.replicate, List.getElem?_cons_zero, List.getElem?_cons_succ, Option.some.injEq, V.int.injEq, V.bl.injEq, V.ref.injEq, V.str.injEq, List.cons.injEq, exists_eq_left', exists_eq_left, exists_and_left, and_assoc, upd_same, upd_upd, HO.lst.injEq, HO.tup.injEq, atI_0, atI_1, atI_2, atI_3, set_1, set_2, set_3, CDiv, CPow, CMul, List.length_set, Int.reduceToNat, Int.reduceLE, Int.reduceLT, Int.reducePow, Int.reduceNeg, Nat.reduceAdd, Nat.reduceLT, Nat.reduceLeDiff, Nat.reducePow, Nat.zero_add, or_true, true_or, gt_iff_lt, ge_iff_le, and_true, true_and, decide_eq_true_eq, if_true, Bool.false_eq_true, if_false]
        refine ⟨[(.inr "variables", .int (n : Int)), (.inr "nodes", .ref D), (.inr "links", .ref al)], rfl, Nat.le_of_ble_eq_true rfl, ?_⟩
        rw [mergeN]
        have s7 := same_new (o := .dK (netKV n D al)) hd
        have k17 : Off1 p H (upd H5 d (.dK (netKV n D al))) := (((k1.tr k2).tr k3).tr k5).tr (Off1.of s7)
        refine q n rows ls d _ ⟨by omega, by omega, by omega, hok, by omega, fun l h => by rw [hl]; exact lok l h⟩ k17 (p5.same s7) (Off1.fresh (((k1.tr k2).tr k3).tr k5) p5 hd) ⟨D, al, upd_same, (hR.off p3 k5).same s7, s7 _ _ eal⟩
end
end AK
set_option Elab.async false
set_option linter.all false
set_option maxRecDepth 100000
set_option maxHeartbeats 4000000
namespace AK
open PySem PySem.Spec PyProof.Rows L2
section
variable {P : Program} {w : World} {K : PySem.W.Frag} {mg : Str → Option Value} {base : Heap} {a : Ads}
def spLRank : Sp := fun vs H Q _ => ∃ (r : Addr) (ms : List Nat), vs = [.ref r] ∧ H r = some (.lst (ps ms)) ∧ (∀ m ∈ ms, m < 64) ∧ ms.length ≤ 900 ∧ ∀ H', Same H H' → Q (.int (rank ms : Nat)) H'
theorem ok_law_rank (T : Txt K mg a) : FnOk P w K mg base CX0 3 a.a_law_rank a.d_law_rank ["messages"] spLRank := by
  have G_law_derived := ok_law_derived (P := P) (w := w) (base := base) T
  refine T.F_law_rank.ok sc_law_rank (fun vs H Q E h => ?_) (fun cdv A outer s H vs Q E hr h => ?_)
  · obtain ⟨_, _, rfl, _⟩ := h
    rfl
  · obtain ⟨r, ms, rfl, hr1, h64, hl, q⟩ := h
    refine ⟨_, (pss_cons (ps_set (i := 1) sc_law_rank.nd rfl (.inl rfl) (pe_callB callLen (by rfl) T.z_len PySem.boot_len (pa_cons (pe_call G_law_derived (hr.mono (by first | decide | exact Nat.le_refl _ | omega)) (by rfl) T.g_law_derived T.F_law_derived.kp T.b_law_derived .nil pass0 (pa_cons (pv 0) pa_nil)) pa_nil)))
      (pss_cons (ps_set (i := 2) sc_law_rank.nd rfl (.inl rfl) pe_int)
      (pss_cons (ps_for PassesOwn.never rfl (pi_range1 (by rfl) T.z_range (pa_cons pe_int pa_nil)) (pg_name (i := 3) sc_law_rank.nd rfl (.inl rfl))
      (pss_one (ps_if (pt_cmpR op_gt (pv 1) pe_int (nomark _))
      (pss_cons (ps_set (i := 1) sc_law_rank.nd rfl (.inl rfl) (pe_op op_fdiv (pv 1) pe_int))
      (pss_one (ps_set (i := 2) sc_law_rank.nd rfl (.inl rfl) (pe_op op_add (pv 2) pe_int))))
      pss_nil)))
      (pss_one (ps_ret (pv 2)))))), ?_⟩
    simp only [tSeq, tAsg, tRet, tRetN, tDrop, tIfS, tNext, tNever, tOp, tUn, tVar, tC, rI0, rI, rU, tTest, tIf, tB, tAnd, tOr, tNot, tAndV, tOrV, tNotV, gName, gSub, gTupH, gCons, gNil, tYes, tCons, tNil, tLst, tTup, tCB, tCall, tMeth, tMake, tFld, sFld, tFor_c, tLc_c, iRng1, iList, iTup, iStr, iSeqB, iEnumB, tM1, tSl, tPart, tNoPart, rSlS, rIxS, tBM, rAppend, tIf, rEq, rNe, scal, hIx, hIxT, hIxB, hSet, hInt, hIntB, hLen, hLenT, hLenB, L2.start, wipe, List.map_cons, List.map_nil, List.set_cons_zero, List.set_cons_succ, List.set_nil, List.length_cons, List.length_nil, List.length_map, List.cons_append, List.nil_append, List.append_nil, List.replicate, List.getElem?_cons_zero, List.getElem?_cons_succ, Option.some.injEq, V.int.injEq, V.bl.injEq, V.ref.injEq, V.str.injEq, List.cons.injEq, exists_eq_left', exists_eq_left, exists_and_left, and_assoc, upd_same, upd_upd, HO.lst.injEq, HO.tup.injEq, atI_0, atI_1, atI_2, atI_3, set_1, set_2, set_3, CDiv, CPow, CMul, List.length_set, Int.reduceToNat, Int.reduceLE, Int.reduceLT, Int.reducePow, Int.reduceNeg, Nat.reduceAdd, Nat.reduceLT, Nat.reduceLeDiff, Nat.reducePow, Nat.zero_add, or_true, true_or, gt_iff_lt, ge_iff_le, and_true, true_and, decide_eq_true_eq, if_true, Bool.false_eq_true, if_false]
    refine ⟨r, ms, rfl, hr1, h64, hl, fun ys D H1 hp hs s1 _ e1 => ?_⟩
    refine ⟨D, rfl, _, e1, ?_⟩
    have hlen : (ys.map V.str).length = 2 ^ rank ms := by
      rw [List.length_map, hp.length_eq, List.length_map]
      exact (rep ms).l
    have r6 : rank ms ≤ 6 := by
      have h1 := der_len h64
      rw [(rep ms).l] at h1
      exact (Nat.pow_le_pow_iff_right (by decide : 1 < 2)).mp (show 2 ^ rank ms ≤ 2 ^ 6 from h1)
    rw [hlen]
    refine forRng (n := 6) (fun i σ H' => (∃ v, σ = [some (.ref r), some (.int ((2 ^ (rank ms - i) : Nat) : Int)), some (.int ((min i (rank ms) : Nat) : Int)), v]) ∧ H' = H1) ⟨⟨_, by rw [Nat.sub_zero, Nat.zero_min]; rfl⟩, rfl⟩ ?_ ?_
    · rintro i σ H' hi ⟨⟨v, rfl⟩, rfl⟩
      simp only [tSeq, tAsg, tRet, tRetN, tDrop, tIfS, tNext, tNever, tOp, tUn, tVar, tC, rI0, rI, rU, tTest, tIf, tB, tAnd, tOr, tNot, tAndV, tOrV, tNotV, gName, gSub, gTupH, gCons, gNil, tYes, tCons, tNil, tLst, tTup, tCB, tCall, tMeth, tMake, tFld, sFld, tFor_c, tLc_c, iRng1, iList, iTup, iStr, iSeqB, iEnumB, tM1, tSl, tPart, tNoPart, rSlS, rIxS, tBM, rAppend, tIf, rEq, rNe, scal, hIx, hIxT, hIxB, hSet, hInt, hIntB, hLen, hLenT, hLenB, L2.start, wipe, List.map_cons, List.map_nil, List.set_cons_zero, List.set_cons_succ, List.set_nil, List.length_cons, List.length_nil, List.length_map, List.cons_append, List.nil_append, List.append_nil, List.replicate, List.getElem?_cons_zero, List.getElem?_cons_succ, Option.some.injEq, V.int.injEq, V.bl.injEq, V.ref.injEq, V.str.injEq, List.cons.injEq, exists_eq_left', exists_eq_left, exists_and_left, and_assoc, upd_same, upd_upd, HO.lst.injEq, HO.tup.injEq, atI_0, atI_1, atI_2, atI_3, set_1, set_2, set_3, CDiv, CPow, CMul, List.length_set, Int.reduceToNat, Int.reduceLE, Int.reduceLT, Int.reducePow, Int.reduceNeg, Nat.reduceAdd, Nat.reduceLT, Nat.reduceLeDiff, Nat.reducePow, Nat.zero_add, or_true, true_or, gt_iff_lt, ge_iff_le, and_true, true_and, decide_eq_true_eq, if_true, Bool.false_eq_true, if_false]
      by_cases hir : i < rank ms
      · have e2 : 2 ^ (rank ms - i) = 2 ^ (rank ms - (i + 1)) * 2 := by
          rw [← Nat.pow_succ]
          congr 1
          omega
        have e1 : 1 ≤ 2 ^ (rank ms - (i + 1)) := Nat.two_pow_pos _
        refine ite2 (fun c => ?_) fun c => absurd c (by omega)
        rw [e2, show min (i + 1) (rank ms) = min i (rank ms) + 1 from by omega]
        exact ⟨by omega, by omega, _, rfl⟩
      · have e0 : rank ms - i = 0 := by omega
        refine ite2 (fun c => absurd c (by rw [e0]; decide)) fun c => ?_
        rw [show rank ms - (i + 1) = rank ms - i from by omega, show min (i + 1) (rank ms) = min i (rank ms) from by omega]
        exact ⟨rfl, rfl, _, rfl⟩
    · rintro σ H' ⟨⟨v, rfl⟩, rfl⟩
      simp only [tSeq, tAsg, tRet, tRetN, tDrop, tIfS, tNext, tNever, tOp, tUn, tVar, tC, rI0, rI, rU, tTest, tIf, tB, tAnd, tOr, tNot, tAndV, tOrV, tNotV, gName, gSub, gTupH, gCons, gNil, tYes, tCons, tNil, tLst, tTup, tCB, tCall, tMeth, tMake, tFld, sFld, tFor_c, tLc_c, iRng1, iList, iTup, iStr, iSeqB, iEnumB, tM1, tSl, tPart, tNoPart, rSlS, rIxS, tBM, rAppend, tIf, rEq, rNe, scal, hIx, hIxT, hIxB, hSet, hInt, hIntB, hLen, hLenT, hLenB, L2.start, wipe, List.map_cons, List.map_nil, List.set_cons_zero, List.set_cons_succ, List.set_nil, List.length_cons, List.length_nil, List.length_map, List.cons_append, List.nil_append, List.append_nil, List.replicate, List.getElem?_cons_zero, List.getElem?_cons_succ, Option.some.injEq, V.int.injEq, V.bl.injEq, V.ref.injEq, V.str.injEq, List.cons.injEq, exists_eq_left', exists_eq_left, exists_and_left, and_assoc, upd_same, upd_upd, HO.lst.injEq, HO.tup.injEq, atI_0, atI_1, atI_2, atI_3, set_1, set_2, set_3, CDiv, CPow, CMul, List.length_set, Int.reduceToNat, Int.reduceLE, Int.reduceLT, Int.reducePow, Int.reduceNeg, Nat.reduceAdd, Nat.reduceLT, Nat.reduceLeDiff, Nat.reducePow, Nat.zero_add, or_true, true_or, gt_iff_lt, ge_iff_le, and_true, true_and, decide_eq_true_eq, if_true, Bool.false_eq_true, if_false]
      rw [Nat.min_eq_right r6]
      exact q _ s1
def spSets : Sp := fun vs H Q _ => ∃ (n : Nat), vs = [.int (n : Int)] ∧ n ≤ 6 ∧ ∀ D H', Same H H' → H D = none → H' D = some (.lst (tsL (osets n))) → Q (.ref D) H'
theorem ok_law_sets (T : Txt K mg a) : FnOk P w K mg base CX0 1 a.a_law_sets a.d_law_sets ["many"] spSets := by
  refine T.F_law_sets.ok sc_law_sets (fun vs H Q E h => ?_) (fun cdv A outer s H vs Q E hr h => ?_)
  · obtain ⟨_, rfl, _⟩ := h
    rfl
  · obtain ⟨n, rfl, hn, q⟩ := h
    refine ⟨_, (pss_cons (ps_set (i := 1) sc_law_sets.nd rfl (.inl rfl) (pe_lst (pa_cons pe_str pa_nil)))
      (pss_cons (ps_for PassesOwn.never rfl (pi_str (pe_slice sl_str pe_str po_none (po_some (pv 0)))) (pg_name (i := 2) sc_law_sets.nd rfl (.inr rfl))
      (pss_one (ps_set (i := 1) sc_law_sets.nd rfl (.inl rfl) (pe_op op_cat (pv 1) (pe_lc (own := [("one", 3)]) (g := gName 3) (tt := tYes) rfl sc_law_sets.nd (pi_list (pv 1)) (blkOk_by (own := [("one", 3)]) (N := sc_law_sets_N) (sc := defScope s_law_sets) (by decide +kernel)) (fun _ _ _ _ _ => (pg_name (i := 3) sc_law_sets.nd rfl (.inl rfl))) (fun _ _ _ _ _ => pts_nil) (fun _ _ _ _ _ => (pe_op op_add_str (pv 3) (pv 2))))))))
      (pss_one (ps_ret (pe_lc (own := [("pair", 4)]) (g := gName 4) (tt := tYes) rfl sc_law_sets.nd (pi_list (pe_callB (cr_sortedD hr.units) (by rfl) T.z_sorted (by decide +kernel) (pa_cons (pe_lc (own := [("one", 3)]) (g := gName 3)  rfl sc_law_sets.nd (pi_list (pv 1)) (blkOk_by (own := [("one", 3)]) (N := sc_law_sets_N) (sc := defScope s_law_sets) (by decide +kernel)) (fun _ _ _ _ _ => (pg_name (i := 3) sc_law_sets.nd rfl (.inl rfl))) (fun _ _ _ _ _ => (pts_one (pt_cmpR op_ne (pv 3) pe_str (nomark _)))) (fun _ _ _ _ _ => (pe_tup (pa_cons (pe_callB call_len_str (by rfl) T.z_len PySem.boot_len (pa_cons (pv 3) pa_nil)) (pa_cons (pv 3) pa_nil))))) pa_nil))) (blkOk_by (own := [("pair", 4)]) (N := sc_law_sets_N) (sc := defScope s_law_sets) (by decide +kernel)) (fun _ _ _ _ _ => (pg_name (i := 4) sc_law_sets.nd rfl (.inl rfl))) (fun _ _ _ _ _ => pts_nil) (fun _ _ _ _ _ => (pe_ix ixHT (pv 4) pe_int (fun _ _ => rfl)))))))), ?_⟩
    simp only [tSeq, tAsg, tRet, tRetN, tDrop, tIfS, tNext, tNever, tOp, tUn, tVar, tC, rI0, rI, rU, tTest, tIf, tB, tAnd, tOr, tNot, tAndV, tOrV, tNotV, gName, gSub, gTupH, gCons, gNil, tYes, tCons, tNil, tLst, tTup, tCB, tCall, tMeth, tMake, tFld, sFld, tFor_c, tLc_c, iRng1, iList, iTup, iStr, iSeqB, iEnumB, tM1, tSl, tPart, tNoPart, rSlS, rIxS, tBM, rAppend, tIf, rEq, rNe, scal, hIx, hIxT, hIxB, hSet, hInt, hIntB, hLen, hLenT, hLenB, L2.start, wipe, List.map_cons, List.map_nil, List.set_cons_zero, List.set_cons_succ, List.set_nil, List.length_cons, List.length_nil, List.length_map, List.cons_append, List.nil_append, List.append_nil, List.replicate, List.getElem?_cons_zero, List.getElem?_cons_succ, Option.some.injEq, V.int.injEq, V.bl.injEq, V.ref.injEq, V.str.injEq, List.cons.injEq, exists_eq_left', exists_eq_left, exists_and_left, and_assoc, upd_same, upd_upd, HO.lst.injEq, HO.tup.injEq, atI_0, atI_1, atI_2, atI_3, set_1, set_2, set_3, CDiv, CPow, CMul, List.length_set, Int.reduceToNat, Int.reduceLE, Int.reduceLT, Int.reducePow, Int.reduceNeg, Nat.reduceAdd, Nat.reduceLT, Nat.reduceLeDiff, Nat.reducePow, Nat.zero_add, or_true, true_or, gt_iff_lt, ge_iff_le, and_true, true_and, decide_eq_true_eq, if_true, Bool.false_eq_true, if_false]
    refine ⟨by decide, fun F0 hF0 => ⟨by decide +kernel, ?_⟩⟩
    rw [show cutS (Str.ofString "ABCDEF") none (some (n : Int)) = tx (AN.take n) from cutN hn]
    refine forStr (x := tx (AN.take n)) (fun i σ H' => ∃ (f : Addr) (v2 v3 v4 : Option V), σ = [some (.int (n : Int)), some (.ref f), v2, v3, v4] ∧ Same H H' ∧ H f = none ∧ H' f = some (.lst (tsL (fnd i)))) ⟨F0, none, none, none, rfl, same_new hF0, hF0, by rw [upd_same]; rfl⟩ ?_ ?_
    · rintro i c σ H' hc ⟨f, v2, v3, v4, rfl, s1, nf, ef⟩
      have hc : (AN.take n)[i]? = some c := hc
      have hi : i < n := by
        have := (List.getElem?_eq_some_iff.mp hc).1
        rw [List.length_take] at this
        omega
      have ec : c = 65 + i := by
        rw [ANt_at hi (by omega)] at hc
        exact (Option.some.inj hc).symm
      obtain ⟨b1, b2⟩ := fnd_b (n := i) (by omega)
      simp only [tSeq, tAsg, tRet, tRetN, tDrop, tIfS, tNext, tNever, tOp, tUn, tVar, tC, rI0, rI, rU, tTest, tIf, tB, tAnd, tOr, tNot, tAndV, tOrV, tNotV, gName, gSub, gTupH, gCons, gNil, tYes, tCons, tNil, tLst, tTup, tCB, tCall, tMeth, tMake, tFld, sFld, tFor_c, tLc_c, iRng1, iList, iTup, iStr, iSeqB, iEnumB, tM1, tSl, tPart, tNoPart, rSlS, rIxS, tBM, rAppend, tIf, rEq, rNe, scal, hIx, hIxT, hIxB, hSet, hInt, hIntB, hLen, hLenT, hLenB, L2.start, wipe, List.map_cons, List.map_nil, List.set_cons_zero, List.set_cons_succ, List.set_nil, List.length_cons, List.length_nil, List.length_map, List.cons_append, List.nil_append, List.append_nil, List.replicate, List.getElem?_cons_zero, List.getElem?_cons_succ, Option.some.injEq, V.int.injEq, V.bl.injEq, V.ref.injEq, V.str.injEq, List.cons.injEq, exists_eq_left', exists_eq_left, exists_and_left, and_assoc, upd_same, upd_upd, HO.lst.injEq, HO.tup.injEq, atI_0, atI_1, atI_2, atI_3, set_1, set_2, set_3, CDiv, CPow, CMul, List.length_set, Int.reduceToNat, Int.reduceLE, Int.reduceLT, Int.reducePow, Int.reduceNeg, Nat.reduceAdd, Nat.reduceLT, Nat.reduceLeDiff, Nat.reducePow, Nat.zero_add, or_true, true_or, gt_iff_lt, ge_iff_le, and_true, true_and, decide_eq_true_eq, if_true, Bool.false_eq_true, if_false]
      refine ⟨⟨_, SqL.of ef⟩, ?_⟩
      refine lcLst (xs := tsL (fnd i)) (fun j D H2 => H2 D = some (.lst (tsL (((fnd i).take j).map (· ++ [c])))) ∧ Same H' H2) (fun D hD => ⟨upd_same, same_new hD⟩) (fun j D H2 _ _ z => SqL.of (z.2 _ _ ef)) ?_ ?_
      · rintro j x D H2 hD hx ⟨eD, s2⟩
        obtain ⟨l, hl, rfl⟩ := tsL_at hx
        have := b2 l (List.mem_of_getElem? hl)
        refine ⟨rfl, ?_⟩
        simp only [tSeq, tAsg, tRet, tRetN, tDrop, tIfS, tNext, tNever, tOp, tUn, tVar, tC, rI0, rI, rU, tTest, tIf, tB, tAnd, tOr, tNot, tAndV, tOrV, tNotV, gName, gSub, gTupH, gCons, gNil, tYes, tCons, tNil, tLst, tTup, tCB, tCall, tMeth, tMake, tFld, sFld, tFor_c, tLc_c, iRng1, iList, iTup, iStr, iSeqB, iEnumB, tM1, tSl, tPart, tNoPart, rSlS, rIxS, tBM, rAppend, tIf, rEq, rNe, scal, hIx, hIxT, hIxB, hSet, hInt, hIntB, hLen, hLenT, hLenB, L2.start, wipe, List.map_cons, List.map_nil, List.set_cons_zero, List.set_cons_succ, List.set_nil, List.length_cons, List.length_nil, List.length_map, List.cons_append, List.nil_append, List.append_nil, List.replicate, List.getElem?_cons_zero, List.getElem?_cons_succ, Option.some.injEq, V.int.injEq, V.bl.injEq, V.ref.injEq, V.str.injEq, List.cons.injEq, exists_eq_left', exists_eq_left, exists_and_left, and_assoc, upd_same, upd_upd, HO.lst.injEq, HO.tup.injEq, atI_0, atI_1, atI_2, atI_3, set_1, set_2, set_3, CDiv, CPow, CMul, List.length_set, Int.reduceToNat, Int.reduceLE, Int.reduceLT, Int.reducePow, Int.reduceNeg, Nat.reduceAdd, Nat.reduceLT, Nat.reduceLeDiff, Nat.reducePow, Nat.zero_add, or_true, true_or, gt_iff_lt, ge_iff_le, and_true, true_and, decide_eq_true_eq, if_true, Bool.false_eq_true, if_false]
        refine ⟨?_, _, eD, ?_, ?_, same_out s2 hD⟩
        · show l.length + 1 ≤ _
          exact sizeLe (by omega)
        · rw [List.length_map, List.length_map, List.length_take]
          exact small1000 (by omega)
        · rw [show (⟨#[c]⟩ : Str) = tx [c] from rfl, tx_app, take_s hl, List.map_append, tsL, tsL, List.map_append]
          rfl
      · rintro D H2 hD ⟨eD, s2⟩
        rw [List.length_map, List.take_of_length_le (Nat.le_refl _)] at eD
        refine ⟨f, D, _, _, rfl, rfl, s2 _ _ ef, eD, ?_, fun G hG => ⟨G, rfl, Same.tr (Same.tr s1 s2) (same_new hG), (Same.tr s1 s2).free hG, ?_⟩⟩
        · rw [List.length_map, List.length_map, List.length_map]
          exact sizeLe (by omega)
        · rw [upd_same, fnd_succ, tsL, tsL, tsL, List.map_append, ec]
    · rintro σ H' ⟨f, v2, v3, v4, rfl, s1, nf, ef⟩
      have l6 : (tx (AN.take n)).cps.toList.length = n := by
        show (AN.take n).length = n
        rw [List.length_take, AN_len]
        omega
      rw [l6] at ef
      obtain ⟨b1, b2⟩ := fnd_b hn
      simp only [tSeq, tAsg, tRet, tRetN, tDrop, tIfS, tNext, tNever, tOp, tUn, tVar, tC, rI0, rI, rU, tTest, tIf, tB, tAnd, tOr, tNot, tAndV, tOrV, tNotV, gName, gSub, gTupH, gCons, gNil, tYes, tCons, tNil, tLst, tTup, tCB, tCall, tMeth, tMake, tFld, sFld, tFor_c, tLc_c, iRng1, iList, iTup, iStr, iSeqB, iEnumB, tM1, tSl, tPart, tNoPart, rSlS, rIxS, tBM, rAppend, tIf, rEq, rNe, scal, hIx, hIxT, hIxB, hSet, hInt, hIntB, hLen, hLenT, hLenB, L2.start, wipe, List.map_cons, List.map_nil, List.set_cons_zero, List.set_cons_succ, List.set_nil, List.length_cons, List.length_nil, List.length_map, List.cons_append, List.nil_append, List.append_nil, List.replicate, List.getElem?_cons_zero, List.getElem?_cons_succ, Option.some.injEq, V.int.injEq, V.bl.injEq, V.ref.injEq, V.str.injEq, List.cons.injEq, exists_eq_left', exists_eq_left, exists_and_left, and_assoc, upd_same, upd_upd, HO.lst.injEq, HO.tup.injEq, atI_0, atI_1, atI_2, atI_3, set_1, set_2, set_3, CDiv, CPow, CMul, List.length_set, Int.reduceToNat, Int.reduceLE, Int.reduceLT, Int.reducePow, Int.reduceNeg, Nat.reduceAdd, Nat.reduceLT, Nat.reduceLeDiff, Nat.reducePow, Nat.zero_add, or_true, true_or, gt_iff_lt, ge_iff_le, and_true, true_and, decide_eq_true_eq, if_true, Bool.false_eq_true, if_false]
      refine ⟨⟨_, SqL.of ef⟩, ?_⟩
      refine lcLst (xs := tsL (fnd n)) (fun j D H2 => ∃ bs : List (Addr × List Nat), H2 D = some (.lst (bs.map fun b => V.ref b.1)) ∧ bs.map (·.2) = ((fnd n).take j).filter (fun l => !l.isEmpty) ∧ (∀ b ∈ bs, H2 b.1 = some (.tup [.int (b.2.length : Nat), .str (tx b.2)])) ∧ Same H' H2) (fun D hD => ⟨[], upd_same, rfl, fun b hb => absurd hb List.not_mem_nil, same_new hD⟩) (fun j D H2 _ _ ⟨_, _, _, _, z⟩ => SqL.of (z _ _ ef)) ?_ ?_
      · rintro j x D H2 hD hx ⟨bs, eD, e2, e3, s2⟩
        obtain ⟨l, hl, rfl⟩ := tsL_at hx
        have ll := b2 l (List.mem_of_getElem? hl)
        have lb : bs.length ≤ 64 := by
          have z : (bs.map (·.2)).length ≤ (fnd n).length := by
            rw [e2]
            exact Nat.le_trans (List.length_filter_le _ _) (by rw [List.length_take]; exact Nat.min_le_right _ _)
          rw [List.length_map] at z
          omega
        refine ⟨rfl, ?_⟩
        simp only [tSeq, tAsg, tRet, tRetN, tDrop, tIfS, tNext, tNever, tOp, tUn, tVar, tC, rI0, rI, rU, tTest, tIf, tB, tAnd, tOr, tNot, tAndV, tOrV, tNotV, gName, gSub, gTupH, gCons, gNil, tYes, tCons, tNil, tLst, tTup, tCB, tCall, tMeth, tMake, tFld, sFld, tFor_c, tLc_c, iRng1, iList, iTup, iStr, iSeqB, iEnumB, tM1, tSl, tPart, tNoPart, rSlS, rIxS, tBM, rAppend, tIf, rEq, rNe, scal, hIx, hIxT, hIxB, hSet, hInt, hIntB, hLen, hLenT, hLenB, L2.start, wipe, List.map_cons, List.map_nil, List.set_cons_zero, List.set_cons_succ, List.set_nil, List.length_cons, List.length_nil, List.length_map, List.cons_append, List.nil_append, List.append_nil, List.replicate, List.getElem?_cons_zero, List.getElem?_cons_succ, Option.some.injEq, V.int.injEq, V.bl.injEq, V.ref.injEq, V.str.injEq, List.cons.injEq, exists_eq_left', exists_eq_left, exists_and_left, and_assoc, upd_same, upd_upd, HO.lst.injEq, HO.tup.injEq, atI_0, atI_1, atI_2, atI_3, set_1, set_2, set_3, CDiv, CPow, CMul, List.length_set, Int.reduceToNat, Int.reduceLE, Int.reduceLT, Int.reducePow, Int.reduceNeg, Nat.reduceAdd, Nat.reduceLT, Nat.reduceLeDiff, Nat.reducePow, Nat.zero_add, or_true, true_or, gt_iff_lt, ge_iff_le, and_true, true_and, decide_eq_true_eq, if_true, Bool.false_eq_true, if_false]
        by_cases h0 : l = []
        · subst h0
          refine ite2 (fun c => absurd c (by decide +kernel)) fun _ => ⟨bs, eD, ?_, e3, s2⟩
          rw [e2, take_s hl, List.filter_append]
          simp
        · have hne : (!decide (tx l = (Str.ofString ""))) = true := by
            rw [decide_eq_false (fun z : tx l = Str.ofString "" => h0 (tx_inj (m := []) z))]
            rfl
          refine ite2 (fun _ => ⟨by rw [len_tx]; exact sizeLe (by omega), by decide, fun u hu => ?_⟩) fun c => absurd hne c
          have hDu : D ≠ u := fun z => by
            rw [z, hu] at eD
            cases eD
          refine ⟨_, by rw [upd_ne hDu]; exact eD, by rw [List.length_map]; exact small1000 (by omega), bs ++ [(u, l)], by rw [List.map_append]; rfl, ?_, ?_, same_out (Same.tr s2 (same_new hu)) hD⟩
          · rw [List.map_append, e2, take_s hl, List.filter_append]
            congr 1
            cases l with
            | nil => exact absurd rfl h0
            | cons y l => rfl
          · intro b hb
            rcases List.mem_append.mp hb with z | z
            · have zb := e3 b z
              have b1 : b.1 ≠ D := fun y => by
                rw [y, eD] at zb
                cases zb
              have b2 : b.1 ≠ u := fun y => by
                rw [y, hu] at zb
                cases zb
              rw [upd_ne b1, upd_ne b2]
              exact zb
            · rw [List.mem_singleton.mp z, upd_ne hDu.symm, upd_same]
              rfl
      · rintro D H2 hD ⟨bs, eD, e2, e3, s2⟩
        rw [List.length_map, List.take_of_length_le (Nat.le_refl _)] at e2
        refine ⟨D, Addr × List Nat, bs, fun b => V.ref b.1, fun b => encS b.2, rfl, SqL.of eD, fun b hb => .tup (SqT.of (e3 b hb)) (.cons (.int _) (.cons (.str _) .nil)), ?_, ?_, fun b _ => ?_, fun D2 hD2 => ⟨D2, rfl, ⟨_, SqL.of upd_same⟩, ?_⟩⟩
        · have z := alike_encS (bs.map (·.2))
          rw [List.map_map] at z
          exact z
        · have z := sortable_encS (bs.map (·.2))
          rw [List.map_map] at z
          exact z
        · unfold encS
          simp [PyData.depth, PyData.depthAll]
        generalize hS : bs.mergeSort (PySem.W.dataLe false fun b => encS b.2) = cs
        have ecs : cs.map (·.2) = osets n := by
          rw [← hS, PySem.W.sort_maps (s := leS) (fun b : Addr × List Nat => b.2) (fun x _ y _ => ?_), e2, osets_sort hn]
          rw [← encS_le]
          rfl
        have mcs : ∀ b ∈ cs, b ∈ bs := fun b hb => by
          rw [← hS] at hb
          exact (List.mergeSort_perm _ _).mem_iff.mp hb
        have lcs : cs.length ≤ 64 := by
          rw [← hS, (List.mergeSort_perm _ _).length_eq, ← List.length_map (f := (·.2)), e2]
          exact Nat.le_trans (List.length_filter_le _ _) b1
        have s3 := same_new (o := .lst (cs.map fun b => V.ref b.1)) hD2
        refine lcLst (xs := cs.map fun b => V.ref b.1) (fun j D3 H3 => H3 D3 = some (.lst (tsL ((cs.take j).map (·.2)))) ∧ Same (upd H2 D2 (.lst (cs.map fun b => V.ref b.1))) H3) (fun D3 hD3 => ⟨upd_same, same_new hD3⟩) (fun j D3 H3 _ _ z => SqL.of (z.2 _ _ upd_same)) ?_ ?_
        · rintro j x D3 H3 hD3 hx ⟨eD3, s4⟩
          obtain ⟨b, hb, rfl⟩ := map_at hx
          refine ⟨rfl, ?_⟩
          simp only [tSeq, tAsg, tRet, tRetN, tDrop, tIfS, tNext, tNever, tOp, tUn, tVar, tC, rI0, rI, rU, tTest, tIf, tB, tAnd, tOr, tNot, tAndV, tOrV, tNotV, gName, gSub, gTupH, gCons, gNil, tYes, tCons, tNil, tLst, tTup, tCB, tCall, tMeth, tMake, tFld, sFld, tFor_c, tLc_c, iRng1, iList, iTup, iStr, iSeqB, iEnumB, tM1, tSl, tPart, tNoPart, rSlS, rIxS, tBM, rAppend, tIf, rEq, rNe, scal, hIx, hIxT, hIxB, hSet, hInt, hIntB, hLen, hLenT, hLenB, L2.start, wipe, List.map_cons, List.map_nil, List.set_cons_zero, List.set_cons_succ, List.set_nil, List.length_cons, List.length_nil, List.length_map, List.cons_append, List.nil_append, List.append_nil, List.replicate, List.getElem?_cons_zero, List.getElem?_cons_succ, Option.some.injEq, V.int.injEq, V.bl.injEq, V.ref.injEq, V.str.injEq, List.cons.injEq, exists_eq_left', exists_eq_left, exists_and_left, and_assoc, upd_same, upd_upd, HO.lst.injEq, HO.tup.injEq, atI_0, atI_1, atI_2, atI_3, set_1, set_2, set_3, CDiv, CPow, CMul, List.length_set, Int.reduceToNat, Int.reduceLE, Int.reduceLT, Int.reducePow, Int.reduceNeg, Nat.reduceAdd, Nat.reduceLT, Nat.reduceLeDiff, Nat.reducePow, Nat.zero_add, or_true, true_or, gt_iff_lt, ge_iff_le, and_true, true_and, decide_eq_true_eq, if_true, Bool.false_eq_true, if_false]
          refine ⟨_, s4 _ _ (s3 _ _ (e3 b (mcs b (List.mem_of_getElem? hb)))), _, atI_1, _, eD3, by rw [List.length_map, List.length_map, List.length_take]; exact small1000 (by omega), ?_, same_out s4 hD3⟩
          rw [take_s hb, List.map_append, tsL, tsL, List.map_append]
          rfl
        · rintro D3 H3 hD3 ⟨eD3, s4⟩
          rw [List.length_map, List.take_of_length_le (Nat.le_refl _), ecs] at eD3
          have sAll := Same.tr s1 (Same.tr s2 s3)
          exact q D3 H3 (Same.tr sAll s4) (sAll.free hD3) eD3
end
end AK
set_option Elab.async false
set_option linter.all false
set_option maxRecDepth 100000
set_option maxHeartbeats 4000000
namespace AK
open PySem PySem.Spec PyProof.Rows L2
theorem DNet.gets {H : Hp} {d : Addr} {n : Nat} {rows : List (List Nat)} {ls : List (Nat × Nat)} (h : DNet H d n rows ls) : ∃ an al, RowsL H an (rows.map ps) ∧ H al = some (.lst (lks ls)) ∧
    ∀ H', Same H H' → DGet H' d (.str "variables") (some (.int n)) ∧ DGet H' d (.str "nodes") (some (.ref an)) ∧ DGet H' d (.str "links") (some (.ref al)) := by
  obtain ⟨an, al, h1, h2, h3⟩ := h.ex
  refine ⟨an, al, h2, h3, fun H' s => ⟨.inl ⟨_, .inr "variables", .inl (s _ _ h1), rfl, ?_⟩, .inl ⟨_, .inr "nodes", .inl (s _ _ h1), rfl, ?_⟩, .inl ⟨_, .inr "links", .inl (s _ _ h1), rfl, ?_⟩⟩⟩
  · rw [netKV, valV_pos rfl]
  · rw [netKV, valV_neg (fun z => kk1 (Sum.inr.inj z)), valV_pos rfl]
  · rw [netKV, valV_neg (fun z => kk2 (Sum.inr.inj z)), valV_neg (fun z => kk3 (Sum.inr.inj z)), valV_pos rfl]
theorem RowsL.at {H : Hp} {q : Addr} {rows : List (List V)} (h : RowsL H q rows) : ∃ xs : List V, H q = some (.lst xs) ∧ xs.length = rows.length ∧ ∀ (i : Nat) (r : List V), rows[i]? = some r → ∃ t, xs[i]? = some (.ref t) ∧ H t = some (.lst r) := by
  obtain ⟨as, h1, h2, h3, h4⟩ := h.ex
  refine ⟨_, h1, by rw [List.length_map, h2], fun i r hr => ?_⟩
  have hi : i < as.length := by
    rw [h2]
    exact (List.getElem?_eq_some_iff.mp hr).1
  have ha : as[i]? = some as[i] := List.getElem?_eq_getElem hi
  exact ⟨as[i], by rw [List.getElem?_map, ha]; rfl, h4 i r _ hr ha⟩
theorem AN6_at {i : Nat} (h : i < 6) : atI (Str.ofString "ABCDEF").cps.toList (0 + (i : Int)) = some (65 + i) := by
  rw [Int.zero_add]
  refine atI_nat ?_
  rw [show (Str.ofString "ABCDEF").cps.toList = AN.take 6 from AN6]
  exact ANt_at h (by decide)
/-- the messages of the nodes of a set, node by node -/
def msOf (rows : List (List Nat)) (s : List Nat) : List Nat := ((List.range rows.length).filter fun k => decide (65 + k ∈ s)).flatMap fun k => rows.getD k []
theorem flatMap_cg {α β : Type} {f g : α → List β} : ∀ {l : List α}, (∀ x ∈ l, f x = g x) → l.flatMap f = l.flatMap g
  | [], _ => rfl
  | x :: l, h => by
    rw [List.flatMap_cons, List.flatMap_cons, h x List.mem_cons_self, flatMap_cg fun y hy => h y (List.mem_cons_of_mem _ hy)]
theorem msOf_len {rows : List (List Nat)} (h : ∀ r ∈ rows, r.length ≤ 4) (s : List Nat) : (msOf rows s).length ≤ 4 * rows.length := by
  have : ∀ L : List Nat, (L.flatMap fun k => rows.getD k []).length ≤ 4 * L.length := by
    intro L
    induction L with
    | nil => exact Nat.le_refl _
    | cons k L ih =>
      rw [List.flatMap_cons, List.length_append, List.length_cons]
      have : (rows.getD k []).length ≤ 4 := by
        rw [List.getD_eq_getElem?_getD]
        cases e : rows[k]? with
        | none => exact Nat.zero_le _
        | some r => exact h r (List.mem_of_getElem? e)
      omega
  have z := this ((List.range rows.length).filter fun k => decide (65 + k ∈ s))
  have := List.length_filter_le (fun k => decide (65 + k ∈ s)) (List.range rows.length)
  rw [List.length_range] at this
  unfold msOf
  omega
theorem flat_range : ∀ (rows : List (List Nat)), ((List.range rows.length).flatMap fun k => rows.getD k []) = rows.flatten
  | [] => rfl
  | r :: rows => by
    have ih := flat_range rows
    rw [List.length_cons, List.range_succ_eq_map, List.flatMap_cons, List.flatMap_map, List.flatten_cons, ← ih]
    rfl
theorem AN6_mem {k : Nat} (h : k < 6) : 65 + k ∈ AN.take 6 := List.mem_of_getElem? (ANt_at h (by decide))
theorem msOf_all {rows : List (List Nat)} (h : rows.length ≤ 6) : msOf rows (AN.take 6) = rows.flatten := by
  rw [← flat_range]
  unfold msOf
  rw [List.filter_eq_self.mpr]
  intro k hk
  exact decide_eq_true (AN6_mem (by have := List.mem_range.mp hk; omega))
def demand (rows : List (List Nat)) (s : List Nat) : Int := (rank rows.flatten : Nat) - (rank (msOf rows s) : Nat)
/-- a link enters a set -/
def entl (s : List Nat) (l : Nat × Nat) : Bool := decide (65 + l.2 ∈ s) && !decide (65 + l.1 ∈ s)
def ents (ls : List (Nat × Nat)) (s : List Nat) : List Nat := (List.range ls.length).filter fun k => entl s (ls.getD k (0, 0))
def lacks (rows : List (List Nat)) (ls : List (Nat × Nat)) (s : List Nat) : Bool := decide (((ents ls s).length : Int) < demand rows s)
/-- the first deficient set, or none -/
def fdef (rows : List (List Nat)) (ls : List (Nat × Nat)) : List Nat := ((osets rows.length).find? (lacks rows ls)).getD []
section
variable {P : Program} {w : World} {K : PySem.W.Frag} {mg : Str → Option Value} {base : Heap} {a : Ads}
def spMsOf : Sp := fun vs H Q _ => ∃ (d : Addr) (n : Nat) (rows : List (List Nat)) (ls : List (Nat × Nat)) (s : List Nat), vs = [.ref d, .str (tx s)] ∧ DNet H d n rows ls ∧ rows.length ≤ 6 ∧ (∀ r ∈ rows, r.length ≤ 4) ∧ ∀ D H', Same H H' → H D = none → H' D = some (.lst (ps (msOf rows s))) → Q (.ref D) H'
theorem ok_law_messages_of (T : Txt K mg a) : FnOk P w K mg base CX0 1 a.a_law_messages_of a.d_law_messages_of ["network", "letters"] spMsOf := by
  refine T.F_law_messages_of.ok sc_law_messages_of (fun vs H Q E h => ?_) (fun cdv A outer s H vs Q E hr h => ?_)
  · obtain ⟨_, _, _, _, _, rfl, _⟩ := h
    rfl
  · obtain ⟨d, n, rows, ls, st, rfl, hN, h6, h4, q⟩ := h
    refine ⟨_, (pss_cons (ps_set (i := 2) sc_law_messages_of.nd rfl (.inl rfl) (pe_lst pa_nil))
      (pss_cons (ps_for PassesOwn.never rfl (pi_range1 (by rfl) T.z_range (pa_cons (pe_callB callLen (by rfl) T.z_len PySem.boot_len (pa_cons (pe_dget (units1 hr) (pv 0) pe_str (fun _ _ => rfl)) pa_nil)) pa_nil)) (pg_name (i := 3) sc_law_messages_of.nd rfl (.inl rfl))
      (pss_one (ps_if (pt_cmpR op_in_sign (pe_ix ix_str pe_str (pv 3) (fun _ _ => rfl)) (pv 1) rfl)
      (pss_one (ps_expr (pe_bm PySem.F.plainAttrs_list PySem.F.slot_list_extend PySem.F.type_list_extend mt_extend (pv 2) (pa_cons (pe_ix ixH (pe_dget (units1 hr) (pv 0) pe_str (fun _ _ => rfl)) (pv 3) (fun _ _ => rfl)) pa_nil))))
      pss_nil)))
      (pss_one (ps_ret (pv 2))))), ?_⟩
    simp only [gStr2, gSeqH, tDc_c, tDGet, sDPut, rCat, tBreak, rExtend, tSeq, tAsg, tRet, tRetN, tDrop, tIfS, tNext, tNever, tOp, tUn, tVar, tC, rI0, rI, rU, tTest, tIf, tB, tAnd, tOr, tNot, tAndV, tOrV, tNotV, gName, gSub, gTupH, gCons, gNil, tYes, tCons, tNil, tLst, tTup, tCB, tCall, tMeth, tMake, tFld, sFld, tFor_c, tLc_c, iRng1, iList, iTup, iStr, iSeqB, iEnumB, tM1, tSl, tPart, tNoPart, rSlS, rIxS, tBM, rAppend, tIf, rEq, rNe, scal, hIx, hIxT, hIxB, hSet, hInt, hIntB, hLen, hLenT, hLenB, L2.start, wipe, List.map_cons, List.map_nil, List.set_cons_zero, List.set_cons_succ, List.set_nil, List.length_cons, List.length_nil, List.length_map, List.cons_append, List.nil_append, List.append_nil, List.replicate, List.getElem?_cons_zero, List.getElem?_cons_succ, Option.some.injEq, V.int.injEq, V.bl.injEq, V.ref.injEq, V.str.injEq, List.cons.injEq, exists_eq_left', exists_eq_left, exists_and_left, and_assoc, upd_same, upd_upd, HO.lst.injEq, HO.tup.injEq, atI_0, atI_1, atI_2, atI_3, set_1, set_2, set_3, CDiv, CPow, CMul, List.length_set, Int.reduceToNat, Int.reduceLE, Int.reduceLT, Int.reducePow, Int.reduceNeg, Nat.reduceAdd, Nat.reduceLT, Nat.reduceLeDiff, Nat.reducePow, Nat.zero_add, or_true, true_or, gt_iff_lt, ge_iff_le, and_true, true_and, decide_eq_true_eq, if_true, Bool.false_eq_true, if_false]
    obtain ⟨an, al, hR, hl, g⟩ := hN.gets
    refine ⟨by decide, fun p hp => ?_⟩
    have s0 := same_new (o := .lst []) hp
    obtain ⟨xs, ex, lx, hx⟩ := hR.at
    rw [List.length_map] at lx
    refine ⟨_, (g _ s0).2.1, an, rfl, xs, s0 _ _ ex, by omega, by omega, ?_⟩
    rw [lx, Int.toNat_natCast]
    refine forRng (fun i σ H' => (∃ v, σ = [some (.ref d), some (.str (tx st)), some (.ref p), v]) ∧ Same H H' ∧ H' p = some (.lst (ps (((List.range i).filter fun k => decide (65 + k ∈ st)).flatMap fun k => rows.getD k [])))) ⟨⟨_, rfl⟩, s0, upd_same⟩ ?_ ?_
    · rintro i σ H' hi ⟨⟨v, rfl⟩, s1, ep⟩
      simp only [gStr2, gSeqH, tDc_c, tDGet, sDPut, rCat, tBreak, rExtend, tSeq, tAsg, tRet, tRetN, tDrop, tIfS, tNext, tNever, tOp, tUn, tVar, tC, rI0, rI, rU, tTest, tIf, tB, tAnd, tOr, tNot, tAndV, tOrV, tNotV, gName, gSub, gTupH, gCons, gNil, tYes, tCons, tNil, tLst, tTup, tCB, tCall, tMeth, tMake, tFld, sFld, tFor_c, tLc_c, iRng1, iList, iTup, iStr, iSeqB, iEnumB, tM1, tSl, tPart, tNoPart, rSlS, rIxS, tBM, rAppend, tIf, rEq, rNe, scal, hIx, hIxT, hIxB, hSet, hInt, hIntB, hLen, hLenT, hLenB, L2.start, wipe, List.map_cons, List.map_nil, List.set_cons_zero, List.set_cons_succ, List.set_nil, List.length_cons, List.length_nil, List.length_map, List.cons_append, List.nil_append, List.append_nil, List.replicate, List.getElem?_cons_zero, List.getElem?_cons_succ, Option.some.injEq, V.int.injEq, V.bl.injEq, V.ref.injEq, V.str.injEq, List.cons.injEq, exists_eq_left', exists_eq_left, exists_and_left, and_assoc, upd_same, upd_upd, HO.lst.injEq, HO.tup.injEq, atI_0, atI_1, atI_2, atI_3, set_1, set_2, set_3, CDiv, CPow, CMul, List.length_set, Int.reduceToNat, Int.reduceLE, Int.reduceLT, Int.reducePow, Int.reduceNeg, Nat.reduceAdd, Nat.reduceLT, Nat.reduceLeDiff, Nat.reducePow, Nat.zero_add, or_true, true_or, gt_iff_lt, ge_iff_le, and_true, true_and, decide_eq_true_eq, if_true, Bool.false_eq_true, if_false]
      have hri : rows[i]? = some rows[i] := List.getElem?_eq_getElem hi
      have key : (((List.range (i + 1)).filter fun k => decide (65 + k ∈ st)).flatMap fun k => rows.getD k []) = (((List.range i).filter fun k => decide (65 + k ∈ st)).flatMap fun k => rows.getD k []) ++ if 65 + i ∈ st then rows[i] else [] := by
        rw [List.range_succ, List.filter_append, List.flatMap_append]
        congr 1
        by_cases hm : 65 + i ∈ st
        · rw [if_pos hm]
          simp [hm, hri]
        · rw [if_neg hm]
          simp [hm]
      have lnow : (((List.range i).filter fun k => decide (65 + k ∈ st)).flatMap fun k => rows.getD k []).length ≤ 4 * i := by
        have z := msOf_len (rows := rows.take i) (fun r hr => h4 r (List.mem_of_mem_take hr)) st
        have e : msOf (rows.take i) st = (((List.range i).filter fun k => decide (65 + k ∈ st)).flatMap fun k => rows.getD k []) := by
          unfold msOf
          have li : (rows.take i).length = i := by rw [List.length_take]; omega
          rw [li]
          refine flatMap_cg fun k hk => ?_
          have hk := List.mem_range.mp (List.mem_filter.mp hk).1
          rw [List.getD_eq_getElem?_getD, List.getD_eq_getElem?_getD, List.getElem?_take, if_pos hk]
        rw [← e]
        rw [List.length_take] at z
        omega
      refine ⟨by decide +kernel, 65 + i, AN6_at (by omega), ?_⟩
      rw [show (tx st).cps.toList = st from rfl]
      refine ⟨65 + i, rfl, ?_⟩
      by_cases hm : 65 + i ∈ st
      · refine ite2 (fun _ => ?_) fun c => absurd hm c
        obtain ⟨u, hu, eu⟩ := hx i _ (by rw [List.getElem?_map, hri]; rfl)
        have hr4 := h4 _ (List.mem_of_getElem? hri)
        refine ⟨.inl ⟨rfl, _, SqL.of ep⟩, _, (g _ s1).2.1, an, rfl, xs, s1 _ _ ex, _, by rw [Int.zero_add]; exact atI_nat hu, u, rfl, _, ep, _, s1 _ _ eu, ?_, ⟨_, rfl⟩, same_out s1 hp, ?_⟩
        · rw [List.length_map, List.length_map]
          exact sizeLe (by omega)
        · rw [key, if_pos hm, ps, ps, ps, List.map_append]
      · refine ite2 (fun c => absurd c hm) fun _ => ⟨⟨_, rfl⟩, s1, ?_⟩
        rw [key, if_neg hm, List.append_nil]
        exact ep
    · rintro σ H' ⟨⟨v, rfl⟩, s1, ep⟩
      simp only [tSeq, tAsg, tRet, tRetN, tDrop, tIfS, tNext, tNever, tOp, tUn, tVar, tC, rI0, rI, rU, tTest, tIf, tB, tAnd, tOr, tNot, tAndV, tOrV, tNotV, gName, gSub, gTupH, gCons, gNil, tYes, tCons, tNil, tLst, tTup, tCB, tCall, tMeth, tMake, tFld, sFld, tFor_c, tLc_c, iRng1, iList, iTup, iStr, iSeqB, iEnumB, tM1, tSl, tPart, tNoPart, rSlS, rIxS, tBM, rAppend, tIf, rEq, rNe, scal, hIx, hIxT, hIxB, hSet, hInt, hIntB, hLen, hLenT, hLenB, L2.start, wipe, List.map_cons, List.map_nil, List.set_cons_zero, List.set_cons_succ, List.set_nil, List.length_cons, List.length_nil, List.length_map, List.cons_append, List.nil_append, List.append_nil, List.replicate, List.getElem?_cons_zero, List.getElem?_cons_succ, Option.some.injEq, V.int.injEq, V.bl.injEq, V.ref.injEq, V.str.injEq, List.cons.injEq, exists_eq_left', exists_eq_left, exists_and_left, and_assoc, upd_same, upd_upd, HO.lst.injEq, HO.tup.injEq, atI_0, atI_1, atI_2, atI_3, set_1, set_2, set_3, CDiv, CPow, CMul, List.length_set, Int.reduceToNat, Int.reduceLE, Int.reduceLT, Int.reducePow, Int.reduceNeg, Nat.reduceAdd, Nat.reduceLT, Nat.reduceLeDiff, Nat.reducePow, Nat.zero_add, or_true, true_or, gt_iff_lt, ge_iff_le, and_true, true_and, decide_eq_true_eq, if_true, Bool.false_eq_true, if_false]
      exact q p H' s1 hp ep
def spDemand : Sp := fun vs H Q _ => ∃ (d : Addr) (n : Nat) (rows : List (List Nat)) (ls : List (Nat × Nat)) (s : List Nat), vs = [.ref d, .str (tx s)] ∧ DNet H d n rows ls ∧ rows.length ≤ 6 ∧ (∀ r ∈ rows, r.length ≤ 4 ∧ ∀ m ∈ r, m < 64) ∧ ∀ H', Same H H' → Q (.int (demand rows s)) H'
theorem ok_law_demand (T : Txt K mg a) : FnOk P w K mg base CX0 4 a.a_law_demand a.d_law_demand ["network", "letters"] spDemand := by
  have G_law_messages_of := ok_law_messages_of (P := P) (w := w) (base := base) T
  have G_law_rank := ok_law_rank (P := P) (w := w) (base := base) T
  refine T.F_law_demand.ok sc_law_demand (fun vs H Q E h => ?_) (fun cdv A outer s H vs Q E hr h => ?_)
  · obtain ⟨_, _, _, _, _, rfl, _⟩ := h
    rfl
  · obtain ⟨d, n, rows, ls, st, rfl, hN, h6, h4, q⟩ := h
    refine ⟨_, (pss_one (ps_ret (pe_op op_sub (pe_call G_law_rank (hr.mono (by first | decide | exact Nat.le_refl _ | omega)) (by rfl) T.g_law_rank T.F_law_rank.kp T.b_law_rank .nil pass0 (pa_cons (pe_call G_law_messages_of (hr.mono (by first | decide | exact Nat.le_refl _ | omega)) (by rfl) T.g_law_messages_of T.F_law_messages_of.kp T.b_law_messages_of .nil pass0 (pa_cons (pv 0) (pa_cons pe_str pa_nil))) pa_nil)) (pe_call G_law_rank (hr.mono (by first | decide | exact Nat.le_refl _ | omega)) (by rfl) T.g_law_rank T.F_law_rank.kp T.b_law_rank .nil pass0 (pa_cons (pe_call G_law_messages_of (hr.mono (by first | decide | exact Nat.le_refl _ | omega)) (by rfl) T.g_law_messages_of T.F_law_messages_of.kp T.b_law_messages_of .nil pass0 (pa_cons (pv 0) (pa_cons (pv 1) pa_nil))) pa_nil))))), ?_⟩
    simp only [gStr2, gSeqH, tDc_c, tDGet, sDPut, rCat, tBreak, rExtend, tSeq, tAsg, tRet, tRetN, tDrop, tIfS, tNext, tNever, tOp, tUn, tVar, tC, rI0, rI, rU, tTest, tIf, tB, tAnd, tOr, tNot, tAndV, tOrV, tNotV, gName, gSub, gTupH, gCons, gNil, tYes, tCons, tNil, tLst, tTup, tCB, tCall, tMeth, tMake, tFld, sFld, tFor_c, tLc_c, iRng1, iList, iTup, iStr, iSeqB, iEnumB, tM1, tSl, tPart, tNoPart, rSlS, rIxS, tBM, rAppend, tIf, rEq, rNe, scal, hIx, hIxT, hIxB, hSet, hInt, hIntB, hLen, hLenT, hLenB, L2.start, wipe, List.map_cons, List.map_nil, List.set_cons_zero, List.set_cons_succ, List.set_nil, List.length_cons, List.length_nil, List.length_map, List.cons_append, List.nil_append, List.append_nil, List.replicate, List.getElem?_cons_zero, List.getElem?_cons_succ, Option.some.injEq, V.int.injEq, V.bl.injEq, V.ref.injEq, V.str.injEq, List.cons.injEq, exists_eq_left', exists_eq_left, exists_and_left, and_assoc, upd_same, upd_upd, HO.lst.injEq, HO.tup.injEq, atI_0, atI_1, atI_2, atI_3, set_1, set_2, set_3, CDiv, CPow, CMul, List.length_set, Int.reduceToNat, Int.reduceLE, Int.reduceLT, Int.reducePow, Int.reduceNeg, Nat.reduceAdd, Nat.reduceLT, Nat.reduceLeDiff, Nat.reducePow, Nat.zero_add, or_true, true_or, gt_iff_lt, ge_iff_le, and_true, true_and, decide_eq_true_eq, if_true, Bool.false_eq_true, if_false]
    have h4' : ∀ r ∈ rows, r.length ≤ 4 := fun r hr => (h4 r hr).1
    have hm : ∀ s, ∀ m ∈ msOf rows s, m < 64 := fun s m hm => by
      obtain ⟨k, _, hk⟩ := List.mem_flatMap.mp hm
      rw [List.getD_eq_getElem?_getD] at hk
      cases e : rows[k]? with
      | none =>
        rw [e] at hk
        cases hk
      | some r =>
        rw [e] at hk
        exact (h4 r (List.mem_of_getElem? e)).2 m hk
    have hl : ∀ s, (msOf rows s).length ≤ 900 := fun s => Nat.le_trans (msOf_len h4' s) (by omega)
    refine ⟨d, n, rows, ls, AN.take 6, congrArg (fun x => [V.ref d, V.str x]) (show Str.ofString "ABCDEF" = tx (AN.take 6) from by rw [← AN6, tx_lt]), hN, h6, h4', fun D1 H1 s1 _ e1 => ?_⟩
    refine ⟨D1, _, rfl, e1, hm _, hl _, fun H2 s2 => ?_⟩
    refine ⟨d, n, rows, ls, st, rfl, hN.same (Same.tr s1 s2), h6, h4', fun D3 H3 s3 _ e3 => ?_⟩
    refine ⟨D3, _, rfl, e3, hm _, hl _, fun H4 s4 => ⟨_, rfl, _, rfl, ?_⟩⟩
    rw [msOf_all h6]
    exact q H4 (Same.tr (Same.tr s1 s2) (Same.tr s3 s4))
def spEntering : Sp := fun vs H Q _ => ∃ (d : Addr) (n : Nat) (rows : List (List Nat)) (ls : List (Nat × Nat)) (s : List Nat), vs = [.ref d, .str (tx s)] ∧ DNet H d n rows ls ∧ ls.length ≤ 20 ∧ ∀ D H', Same H H' → H D = none → H' D = some (.lst (ni (ents ls s))) → Q (.ref D) H'
theorem ok_law_entering (T : Txt K mg a) : FnOk P w K mg base CX0 1 a.a_law_entering a.d_law_entering ["network", "letters"] spEntering := by
  refine T.F_law_entering.ok sc_law_entering (fun vs H Q E h => ?_) (fun cdv A outer s H vs Q E hr h => ?_)
  · obtain ⟨_, _, _, _, _, rfl, _⟩ := h
    rfl
  · obtain ⟨d, n, rows, ls, st, rfl, hN, h20, q⟩ := h
    refine ⟨_, (pss_one (ps_ret (pe_lc (own := [("k", 2)]) (g := gName 2)  rfl sc_law_entering.nd (pi_range1 (by rfl) T.z_range (pa_cons (pe_callB callLen (by rfl) T.z_len PySem.boot_len (pa_cons (pe_dget (units1 hr) (pv 0) pe_str (fun _ _ => rfl)) pa_nil)) pa_nil)) (blkOk_by (own := [("k", 2)]) (N := sc_law_entering_N) (sc := defScope s_law_entering) (by decide +kernel)) (fun _ _ _ _ _ => (pg_name (i := 2) sc_law_entering.nd rfl (.inl rfl))) (fun _ _ _ _ _ => (pts_one (PW.pt (pw_and (pt_cmpR op_in_sign (pe_ix ix_str (pe_ix ixH (pe_dget (units1 hr) (pv 0) pe_str (fun _ _ => rfl)) (pv 2) (fun _ _ => rfl)) pe_int (fun _ _ => rfl)) (pv 1) rfl) (pw_and1 (pt_cmpR op_notIn_sign (pe_ix ix_str (pe_ix ixH (pe_dget (units1 hr) (pv 0) pe_str (fun _ _ => rfl)) (pv 2) (fun _ _ => rfl)) pe_int (fun _ _ => rfl)) (pv 1) rfl)))))) (fun _ _ _ _ _ => (pv 2))))), ?_⟩
    simp only [gStr2, gSeqH, tDc_c, tDGet, sDPut, rCat, tBreak, rExtend, tSeq, tAsg, tRet, tRetN, tDrop, tIfS, tNext, tNever, tOp, tUn, tVar, tC, rI0, rI, rU, tTest, tIf, tB, tAnd, tOr, tNot, tAndV, tOrV, tNotV, gName, gSub, gTupH, gCons, gNil, tYes, tCons, tNil, tLst, tTup, tCB, tCall, tMeth, tMake, tFld, sFld, tFor_c, tLc_c, iRng1, iList, iTup, iStr, iSeqB, iEnumB, tM1, tSl, tPart, tNoPart, rSlS, rIxS, tBM, rAppend, tIf, rEq, rNe, scal, hIx, hIxT, hIxB, hSet, hInt, hIntB, hLen, hLenT, hLenB, L2.start, wipe, List.map_cons, List.map_nil, List.set_cons_zero, List.set_cons_succ, List.set_nil, List.length_cons, List.length_nil, List.length_map, List.cons_append, List.nil_append, List.append_nil, List.replicate, List.getElem?_cons_zero, List.getElem?_cons_succ, Option.some.injEq, V.int.injEq, V.bl.injEq, V.ref.injEq, V.str.injEq, List.cons.injEq, exists_eq_left', exists_eq_left, exists_and_left, and_assoc, upd_same, upd_upd, HO.lst.injEq, HO.tup.injEq, atI_0, atI_1, atI_2, atI_3, set_1, set_2, set_3, CDiv, CPow, CMul, List.length_set, Int.reduceToNat, Int.reduceLE, Int.reduceLT, Int.reducePow, Int.reduceNeg, Nat.reduceAdd, Nat.reduceLT, Nat.reduceLeDiff, Nat.reducePow, Nat.zero_add, or_true, true_or, gt_iff_lt, ge_iff_le, and_true, true_and, decide_eq_true_eq, if_true, Bool.false_eq_true, if_false]
    obtain ⟨an, al, hR, hl, g⟩ := hN.gets
    have ll : (lks ls).length = ls.length := List.length_map _
    refine ⟨_, (g _ (Same.refl _)).2.2, al, rfl, _, hl, by omega, by omega, ?_⟩
    rw [ll, Int.toNat_natCast]
    refine lcRng (fun i D H' => H' D = some (.lst (ni ((List.range i).filter fun k => entl st (ls.getD k (0, 0))))) ∧ Same H H') (fun D hD => ⟨upd_same, same_new hD⟩) ?_ ?_
    · rintro i D H' hD hi ⟨eD, s1⟩
      refine ⟨rfl, ?_⟩
      simp only [gStr2, gSeqH, tDc_c, tDGet, sDPut, rCat, tBreak, rExtend, tSeq, tAsg, tRet, tRetN, tDrop, tIfS, tNext, tNever, tOp, tUn, tVar, tC, rI0, rI, rU, tTest, tIf, tB, tAnd, tOr, tNot, tAndV, tOrV, tNotV, gName, gSub, gTupH, gCons, gNil, tYes, tCons, tNil, tLst, tTup, tCB, tCall, tMeth, tMake, tFld, sFld, tFor_c, tLc_c, iRng1, iList, iTup, iStr, iSeqB, iEnumB, tM1, tSl, tPart, tNoPart, rSlS, rIxS, tBM, rAppend, tIf, rEq, rNe, scal, hIx, hIxT, hIxB, hSet, hInt, hIntB, hLen, hLenT, hLenB, L2.start, wipe, List.map_cons, List.map_nil, List.set_cons_zero, List.set_cons_succ, List.set_nil, List.length_cons, List.length_nil, List.length_map, List.cons_append, List.nil_append, List.append_nil, List.replicate, List.getElem?_cons_zero, List.getElem?_cons_succ, Option.some.injEq, V.int.injEq, V.bl.injEq, V.ref.injEq, V.str.injEq, List.cons.injEq, exists_eq_left', exists_eq_left, exists_and_left, and_assoc, upd_same, upd_upd, HO.lst.injEq, HO.tup.injEq, atI_0, atI_1, atI_2, atI_3, set_1, set_2, set_3, CDiv, CPow, CMul, List.length_set, Int.reduceToNat, Int.reduceLE, Int.reduceLT, Int.reducePow, Int.reduceNeg, Nat.reduceAdd, Nat.reduceLT, Nat.reduceLeDiff, Nat.reducePow, Nat.zero_add, or_true, true_or, gt_iff_lt, ge_iff_le, and_true, true_and, decide_eq_true_eq, if_true, Bool.false_eq_true, if_false]
      have hli : ls[i]? = some ls[i] := List.getElem?_eq_getElem hi
      have e1 : atI (lks ls) (0 + (i : Int)) = some (.str (lkt ls[i])) := by
        rw [Int.zero_add]
        exact atI_nat (by rw [List.getElem?_map, hli]; rfl)
      have key : ((List.range (i + 1)).filter fun k => entl st (ls.getD k (0, 0))) = ((List.range i).filter fun k => entl st (ls.getD k (0, 0))) ++ if entl st ls[i] = true then [i] else [] := by
        rw [List.range_succ, List.filter_append]
        congr 1
        rw [List.filter_cons, List.getD_eq_getElem?_getD, hli]
        rfl
      have g' := (g _ s1).2.2
      have hl' := s1 _ _ hl
      have lz : (lkt ls[i]).length ≤ sizeLine := Nat.le_of_ble_eq_true rfl
      refine ⟨_, g', al, rfl, _, hl', _, e1, lkt ls[i], rfl, lz, 65 + ls[i].2, atI_1, 65 + ls[i].2, rfl, ?_⟩
      have no : entl st ls[i] = false → H' D = some (.lst (ni ((List.range (i + 1)).filter fun k => entl st (ls.getD k (0, 0))))) ∧ Same H H' := fun e => by
        rw [key, if_neg (by rw [e]; decide), List.append_nil]
        exact ⟨eD, s1⟩
      have lnow : ((List.range i).filter fun k => entl st (ls.getD k (0, 0))).length ≤ i := by
        have := List.length_filter_le (fun k => entl st (ls.getD k (0, 0))) (List.range i)
        rw [List.length_range] at this
        exact this
      refine ite2 (fun c1 => ?_) fun c1 => no (by unfold entl; rw [decide_eq_false (show ¬ 65 + ls[i].2 ∈ st from c1)]; rfl)
      refine ⟨_, g', al, rfl, _, hl', _, e1, lkt ls[i], rfl, lz, 65 + ls[i].1, atI_0, 65 + ls[i].1, rfl, ?_⟩
      refine ite2 (fun c2 => ?_) fun c2 => no ?_
      · refine ⟨_, eD, by rw [ni_len]; exact small1000 (by omega), ?_, same_out s1 hD⟩
        have e : entl st ls[i] = true := by
          unfold entl
          rw [decide_eq_true (show 65 + ls[i].2 ∈ st from c1)]
          exact c2
        rw [key, if_pos e, Int.zero_add]
        exact ni_snoc _ _
      · unfold entl
        rw [decide_eq_true (show 65 + ls[i].2 ∈ st from c1)]
        exact Bool.eq_false_iff.mpr c2
    · rintro D H' hD ⟨eD, s1⟩
      exact q D H' s1 hD eD
def spDefic : Sp := fun vs H Q _ => ∃ (d : Addr) (n : Nat) (rows : List (List Nat)) (ls : List (Nat × Nat)), vs = [.ref d] ∧ DNet H d n rows ls ∧ rows.length ≤ 6 ∧ (∀ r ∈ rows, r.length ≤ 4 ∧ ∀ m ∈ r, m < 64) ∧ ls.length ≤ 20 ∧ ∀ H', Same H H' → Q (.str (tx (fdef rows ls))) H'
theorem ok_law_deficient (T : Txt K mg a) : FnOk P w K mg base CX0 5 a.a_law_deficient a.d_law_deficient ["network"] spDefic := by
  have G_law_sets := ok_law_sets (P := P) (w := w) (base := base) T
  have G_law_entering := ok_law_entering (P := P) (w := w) (base := base) T
  have G_law_demand := ok_law_demand (P := P) (w := w) (base := base) T
  refine T.F_law_deficient.ok sc_law_deficient (fun vs H Q E h => ?_) (fun cdv A outer s H vs Q E hr h => ?_)
  · obtain ⟨_, _, _, _, rfl, _⟩ := h
    rfl
  · obtain ⟨d, n, rows, ls, rfl, hN, h6, h4, h20, q⟩ := h
    refine ⟨_, (pss_cons (ps_for PassesOwn.never rfl (pi_list (pe_call G_law_sets (hr.mono (by first | decide | exact Nat.le_refl _ | omega)) (by rfl) T.g_law_sets T.F_law_sets.kp T.b_law_sets .nil pass0 (pa_cons (pe_callB callLen (by rfl) T.z_len PySem.boot_len (pa_cons (pe_dget (units1 hr) (pv 0) pe_str (fun _ _ => rfl)) pa_nil)) pa_nil))) (pg_name (i := 1) sc_law_deficient.nd rfl (.inl rfl))
      (pss_one (ps_if (pt_cmpR op_lt (pe_callB callLen (by rfl) T.z_len PySem.boot_len (pa_cons (pe_call G_law_entering (hr.mono (by first | decide | exact Nat.le_refl _ | omega)) (by rfl) T.g_law_entering T.F_law_entering.kp T.b_law_entering .nil pass0 (pa_cons (pv 0) (pa_cons (pv 1) pa_nil))) pa_nil)) (pe_call G_law_demand (hr.mono (by first | decide | exact Nat.le_refl _ | omega)) (by rfl) T.g_law_demand T.F_law_demand.kp T.b_law_demand .nil pass0 (pa_cons (pv 0) (pa_cons (pv 1) pa_nil))) (nomark _))
      (pss_one (ps_ret (pv 1)))
      pss_nil)))
      (pss_one (ps_ret pe_str))), ?_⟩
    simp only [gStr2, gSeqH, tDc_c, tDGet, sDPut, rCat, tBreak, rExtend, tSeq, tAsg, tRet, tRetN, tDrop, tIfS, tNext, tNever, tOp, tUn, tVar, tC, rI0, rI, rU, tTest, tIf, tB, tAnd, tOr, tNot, tAndV, tOrV, tNotV, gName, gSub, gTupH, gCons, gNil, tYes, tCons, tNil, tLst, tTup, tCB, tCall, tMeth, tMake, tFld, sFld, tFor_c, tLc_c, iRng1, iList, iTup, iStr, iSeqB, iEnumB, tM1, tSl, tPart, tNoPart, rSlS, rIxS, tBM, rAppend, tIf, rEq, rNe, scal, hIx, hIxT, hIxB, hSet, hInt, hIntB, hLen, hLenT, hLenB, L2.start, wipe, List.map_cons, List.map_nil, List.set_cons_zero, List.set_cons_succ, List.set_nil, List.length_cons, List.length_nil, List.length_map, List.cons_append, List.nil_append, List.append_nil, List.replicate, List.getElem?_cons_zero, List.getElem?_cons_succ, Option.some.injEq, V.int.injEq, V.bl.injEq, V.ref.injEq, V.str.injEq, List.cons.injEq, exists_eq_left', exists_eq_left, exists_and_left, and_assoc, upd_same, upd_upd, HO.lst.injEq, HO.tup.injEq, atI_0, atI_1, atI_2, atI_3, set_1, set_2, set_3, CDiv, CPow, CMul, List.length_set, Int.reduceToNat, Int.reduceLE, Int.reduceLT, Int.reducePow, Int.reduceNeg, Nat.reduceAdd, Nat.reduceLT, Nat.reduceLeDiff, Nat.reducePow, Nat.zero_add, or_true, true_or, gt_iff_lt, ge_iff_le, and_true, true_and, decide_eq_true_eq, if_true, Bool.false_eq_true, if_false]
    obtain ⟨an, al, hR, hl, g⟩ := hN.gets
    obtain ⟨xs, ex, lx, hx⟩ := hR.at
    rw [List.length_map] at lx
    refine ⟨_, (g _ (Same.refl _)).2.1, an, rfl, xs, ex, ?_⟩
    rw [lx]
    refine ⟨rows.length, rfl, h6, fun D H1 s1 nD eD => ⟨D, rfl, ⟨_, SqL.of eD⟩, ?_⟩⟩
    refine forLst (xs := tsL (osets rows.length)) (fun i σ H' => (∃ v, σ = [some (.ref d), v]) ∧ Same H1 H' ∧ ∀ s ∈ (osets rows.length).take i, lacks rows ls s = false) ⟨⟨_, rfl⟩, Same.refl _, fun s h => by rw [List.take_zero] at h; cases h⟩ (fun i σ H' _ z => SqL.of (z.2.1 _ _ eD)) ?_ ?_
    · rintro i x σ H' hx ⟨⟨v, rfl⟩, s2, hno⟩
      obtain ⟨st, hst, rfl⟩ := tsL_at hx
      have s12 := Same.tr s1 s2
      simp only [gStr2, gSeqH, tDc_c, tDGet, sDPut, rCat, tBreak, rExtend, tSeq, tAsg, tRet, tRetN, tDrop, tIfS, tNext, tNever, tOp, tUn, tVar, tC, rI0, rI, rU, tTest, tIf, tB, tAnd, tOr, tNot, tAndV, tOrV, tNotV, gName, gSub, gTupH, gCons, gNil, tYes, tCons, tNil, tLst, tTup, tCB, tCall, tMeth, tMake, tFld, sFld, tFor_c, tLc_c, iRng1, iList, iTup, iStr, iSeqB, iEnumB, tM1, tSl, tPart, tNoPart, rSlS, rIxS, tBM, rAppend, tIf, rEq, rNe, scal, hIx, hIxT, hIxB, hSet, hInt, hIntB, hLen, hLenT, hLenB, L2.start, wipe, List.map_cons, List.map_nil, List.set_cons_zero, List.set_cons_succ, List.set_nil, List.length_cons, List.length_nil, List.length_map, List.cons_append, List.nil_append, List.append_nil, List.replicate, List.getElem?_cons_zero, List.getElem?_cons_succ, Option.some.injEq, V.int.injEq, V.bl.injEq, V.ref.injEq, V.str.injEq, List.cons.injEq, exists_eq_left', exists_eq_left, exists_and_left, and_assoc, upd_same, upd_upd, HO.lst.injEq, HO.tup.injEq, atI_0, atI_1, atI_2, atI_3, set_1, set_2, set_3, CDiv, CPow, CMul, List.length_set, Int.reduceToNat, Int.reduceLE, Int.reduceLT, Int.reducePow, Int.reduceNeg, Nat.reduceAdd, Nat.reduceLT, Nat.reduceLeDiff, Nat.reducePow, Nat.zero_add, or_true, true_or, gt_iff_lt, ge_iff_le, and_true, true_and, decide_eq_true_eq, if_true, Bool.false_eq_true, if_false]
      refine ⟨d, n, rows, ls, st, rfl, hN.same s12, h20, fun D3 H3 s3 _ e3 => ⟨D3, rfl, _, e3, ?_⟩⟩
      refine ⟨d, n, rows, ls, st, rfl, hN.same (Same.tr s12 s3), h6, h4, fun H4 s4 => ⟨_, rfl, ?_⟩⟩
      rw [ni_len]
      by_cases hc : lacks rows ls st = true
      · refine ite2 (fun _ => ?_) fun c => absurd (of_decide_eq_true hc) c
        have e : fdef rows ls = st := by
          unfold fdef
          rw [show (osets rows.length).find? (lacks rows ls) = some st from ?_]
          · rfl
          · obtain ⟨hi, e⟩ := List.getElem?_eq_some_iff.mp hst
            rw [List.find?_eq_some_iff_getElem]
            refine ⟨hc, i, hi, e, fun j hj => ?_⟩
            rw [hno _ (List.mem_of_getElem? (i := j) (by rw [List.getElem?_take, if_pos hj]; exact List.getElem?_eq_getElem (by omega)))]
            rfl
        have z := q H4 (Same.tr s12 (Same.tr s3 s4))
        rw [e] at z
        exact z
      · refine ite2 (fun c => absurd (decide_eq_true c) hc) fun _ => ⟨⟨_, rfl⟩, Same.tr s2 (Same.tr s3 s4), fun s hs => ?_⟩
        rw [take_s hst] at hs
        rcases List.mem_append.mp hs with z | z
        · exact hno s z
        · rw [List.mem_singleton.mp z]
          exact Bool.eq_false_iff.mpr hc
    · rintro σ H' ⟨⟨v, rfl⟩, s2, hno⟩
      rw [List.length_map, List.take_of_length_le (Nat.le_refl _)] at hno
      simp only [tSeq, tAsg, tRet, tRetN, tDrop, tIfS, tNext, tNever, tOp, tUn, tVar, tC, rI0, rI, rU, tTest, tIf, tB, tAnd, tOr, tNot, tAndV, tOrV, tNotV, gName, gSub, gTupH, gCons, gNil, tYes, tCons, tNil, tLst, tTup, tCB, tCall, tMeth, tMake, tFld, sFld, tFor_c, tLc_c, iRng1, iList, iTup, iStr, iSeqB, iEnumB, tM1, tSl, tPart, tNoPart, rSlS, rIxS, tBM, rAppend, tIf, rEq, rNe, scal, hIx, hIxT, hIxB, hSet, hInt, hIntB, hLen, hLenT, hLenB, L2.start, wipe, List.map_cons, List.map_nil, List.set_cons_zero, List.set_cons_succ, List.set_nil, List.length_cons, List.length_nil, List.length_map, List.cons_append, List.nil_append, List.append_nil, List.replicate, List.getElem?_cons_zero, List.getElem?_cons_succ, Option.some.injEq, V.int.injEq, V.bl.injEq, V.ref.injEq, V.str.injEq, List.cons.injEq, exists_eq_left', exists_eq_left, exists_and_left, and_assoc, upd_same, upd_upd, HO.lst.injEq, HO.tup.injEq, atI_0, atI_1, atI_2, atI_3, set_1, set_2, set_3, CDiv, CPow, CMul, List.length_set, Int.reduceToNat, Int.reduceLE, Int.reduceLT, Int.reducePow, Int.reduceNeg, Nat.reduceAdd, Nat.reduceLT, Nat.reduceLeDiff, Nat.reducePow, Nat.zero_add, or_true, true_or, gt_iff_lt, ge_iff_le, and_true, true_and, decide_eq_true_eq, if_true, Bool.false_eq_true, if_false]
      have e : fdef rows ls = [] := by
        unfold fdef
        rw [List.find?_eq_none.mpr fun s hs => by rw [hno s hs]; decide]
        rfl
      have z := q H' (Same.tr s1 s2)
      rw [e] at z
      exact z
end
end AK
set_option Elab.async false
set_option linter.all false
set_option maxRecDepth 100000
set_option maxHeartbeats 4000000
namespace AK
open PySem PySem.Spec PyProof.Rows L2
theorem putN (n : Nat) (an al G : Addr) : putK (netKV n an al) (.inr "links") (.ref G) = netKV n an G := by
  simp [putK, netKV, kk1, kk2, kk3]
theorem DNet.put {H : Hp} {d G : Addr} {n : Nat} {rows : List (List Nat)} {ls ls' : List (Nat × Nat)} (h : DNet H d n rows ls) (g : H G = some (.lst (lks ls'))) :
    ∃ o, DPut H d (.str "links") (.ref G) (upd H d o) ∧ DNet (upd H d o) d n rows ls' := by
  obtain ⟨an, al, h1, h2, h3⟩ := h.ex
  obtain ⟨as, r1, r2, r3, r4⟩ := h2.ex
  have ne : ∀ {b xs}, H b = some (.lst xs) → b ≠ d := fun {b xs} e z => by
    rw [z, h1] at e
    cases e
  refine ⟨.dK (netKV n an G), .inl ⟨netKV n an al, .inr "links", h1, rfl, Nat.lt_of_lt_of_le (show 3 < 4 by decide) (by decide), by rw [putN]⟩, an, G, upd_same, ⟨as, ?_, r2, r3, fun i r t e1 e2 => ?_⟩, ?_⟩
  · rw [upd_ne (ne r1)]
    exact r1
  · have z := r4 i r t e1 e2
    rw [upd_ne (ne z)]
    exact z
  · rw [upd_ne (ne g)]
    exact g
theorem fdef_cases {rows : List (List Nat)} (ls : List (Nat × Nat)) (h6 : rows.length ≤ 6) : fdef rows ls = [] ∨ (fdef rows ls ∈ osets rows.length ∧ fdef rows ls ≠ [] ∧ ∀ c ∈ fdef rows ls, 65 ≤ c ∧ c < 65 + rows.length) := by
  unfold fdef
  cases e : (osets rows.length).find? (lacks rows ls) with
  | none => exact .inl rfl
  | some s =>
    have hs := List.mem_of_find?_eq_some e
    exact .inr ⟨hs, osets_b h6 hs⟩
section
variable {P : Program} {w : World} {K : PySem.W.Frag} {mg : Str → Option Value} {base : Heap} {a : Ads}
theorem ok_law_filled (T : Txt K mg a) : FnOk P w K mg base CX0 7 a.a_law_filled a.d_law_filled ["pool", "nodes", "links"] spDrawn := by
  have G_law_take := ok_law_take (P := P) (w := w) (base := base) T
  have G_law_pick := ok_law_pick (P := P) (w := w) (base := base) T
  have G_law_drawn := ok_law_drawn (P := P) (w := w) (base := base) T
  have G_law_deficient := ok_law_deficient (P := P) (w := w) (base := base) T
  refine T.F_law_filled.ok sc_law_filled (fun vs H Q E h => ?_) (fun cdv A outer s H vs Q E hr h => ?_)
  · obtain ⟨_, _, _, _, rfl, _⟩ := h
    rfl
  · obtain ⟨p, c, nodes, links, rfl, n1, n6, l16, hP, q⟩ := h
    refine ⟨_, (pss_cons (ps_set (i := 3) sc_law_filled.nd rfl (.inl rfl) (pe_call G_law_drawn (hr.mono (by first | decide | exact Nat.le_refl _ | omega)) (by rfl) T.g_law_drawn T.F_law_drawn.kp T.b_law_drawn .nil pass0 (pa_cons (pv 0) (pa_cons (pv 1) (pa_cons (pe_op op_fdiv (pv 2) pe_int) pa_nil)))))
      (pss_cons (ps_for PassesOwn.never rfl (pi_range1 (by rfl) T.z_range (pa_cons (pe_op op_sub (pv 2) (pe_callB callLen (by rfl) T.z_len PySem.boot_len (pa_cons (pe_dget (units1 hr) (pv 3) pe_str (fun _ _ => rfl)) pa_nil))) pa_nil)) (pg_name (i := 4) sc_law_filled.nd rfl (.inl rfl))
      (pss_cons (ps_set (i := 5) sc_law_filled.nd rfl (.inr rfl) (pe_call G_law_deficient (hr.mono (by first | decide | exact Nat.le_refl _ | omega)) (by rfl) T.g_law_deficient T.F_law_deficient.kp T.b_law_deficient .nil pass0 (pa_cons (pv 3) pa_nil)))
      (pss_cons (ps_if (pt_cmpR op_eq (pv 5) pe_str (nomark _))
      (pss_one ps_break)
      pss_nil)
      (pss_cons (ps_set (i := 6) sc_law_filled.nd rfl (.inl rfl) (pe_slice sl_str pe_str po_none (po_some (pe_callB callLen (by rfl) T.z_len PySem.boot_len (pa_cons (pe_dget (units1 hr) (pv 3) pe_str (fun _ _ => rfl)) pa_nil)))))
      (pss_cons (ps_setLc (i := 7) (own := [("letter", 8)]) (g := gName 8)  rfl sc_law_filled.nd rfl rfl (sw_true rfl rfl rfl (by decide +kernel)) (pi_str (pv 6)) (blkOk_by (own := [("letter", 8)]) (N := sc_law_filled_N) (sc := defScope s_law_filled) (by decide +kernel)) (fun _ _ _ _ _ => (pg_name (i := 8) sc_law_filled.nd rfl (.inl rfl))) (fun _ _ _ _ _ => (pts_one (pt_cmpR op_notIn_sign (pv 8) (pv 5) rfl))) (fun _ _ _ _ _ => (pv 8)))
      (pss_cons (ps_if (pt_not (pt_truth (pv 7) (by intro _; rfl)))
      (pss_one ps_break)
      pss_nil)
      (pss_one (ps_dput (units1 hr) (pv 3) pe_str (pe_op op_cat (pe_dget (units1 hr) (pv 3) pe_str (fun _ _ => rfl)) (pe_lst (pa_cons (pe_op op_add_str (pe_call G_law_pick (hr.mono (by first | decide | exact Nat.le_refl _ | omega)) (by rfl) T.g_law_pick T.F_law_pick.kp T.b_law_pick .nil pass0 (pa_cons (pv 0) (pa_cons (pv 7) pa_nil))) (pe_ix ix_str (pv 5) (pe_call G_law_take (hr.mono (by first | decide | exact Nat.le_refl _ | omega)) (by rfl) T.g_law_take T.F_law_take.kp T.b_law_take .nil pass0 (pa_cons (pv 0) (pa_cons (pe_callB call_len_str (by rfl) T.z_len PySem.boot_len (pa_cons (pv 5) pa_nil)) pa_nil))) (fun _ _ => rfl))) pa_nil))) rfl))))))))
      (pss_one (ps_ret (pv 3))))), ?_⟩
    simp only [gStr2, gSeqH, tDc_c, tDGet, sDPut, rCat, tBreak, rExtend, tSeq, tAsg, tRet, tRetN, tDrop, tIfS, tNext, tNever, tOp, tUn, tVar, tC, rI0, rI, rU, tTest, tIf, tB, tAnd, tOr, tNot, tAndV, tOrV, tNotV, gName, gSub, gTupH, gCons, gNil, tYes, tCons, tNil, tLst, tTup, tCB, tCall, tMeth, tMake, tFld, sFld, tFor_c, tLc_c, iRng1, iList, iTup, iStr, iSeqB, iEnumB, tM1, tSl, tPart, tNoPart, rSlS, rIxS, tBM, rAppend, tIf, rEq, rNe, scal, hIx, hIxT, hIxB, hSet, hInt, hIntB, hLen, hLenT, hLenB, L2.start, wipe, List.map_cons, List.map_nil, List.set_cons_zero, List.set_cons_succ, List.set_nil, List.length_cons, List.length_nil, List.length_map, List.cons_append, List.nil_append, List.append_nil, List.replicate, List.getElem?_cons_zero, List.getElem?_cons_succ, Option.some.injEq, V.int.injEq, V.bl.injEq, V.ref.injEq, V.str.injEq, List.cons.injEq, exists_eq_left', exists_eq_left, exists_and_left, and_assoc, upd_same, upd_upd, HO.lst.injEq, HO.tup.injEq, atI_0, atI_1, atI_2, atI_3, set_1, set_2, set_3, CDiv, CPow, CMul, List.length_set, Int.reduceToNat, Int.reduceLE, Int.reduceLT, Int.reducePow, Int.reduceNeg, Nat.reduceAdd, Nat.reduceLT, Nat.reduceLeDiff, Nat.reducePow, Nat.zero_add, or_true, true_or, gt_iff_lt, ge_iff_le, and_true, true_and, decide_eq_true_eq, if_true, Bool.false_eq_true, if_false]
    refine ⟨p, c, nodes, links / 3, by rw [Int.natCast_ediv]; rfl, n1, n6, by omega, hP, fun n rows ls0 d H1 ok0 k1 p1 hd N0 => ?_⟩
    obtain ⟨an, al, hR, hl, g⟩ := N0.gets
    have dp : d ≠ p := hP.ne_p hd
    have dc : d ≠ c := hP.ne_c hd
    have ll : (lks ls0).length = ls0.length := List.length_map _
    have hl0 := ok0.l
    have hr1 := ok0.r1
    have hr2 := ok0.r2
    have h64 : ∀ r ∈ rows, r.length ≤ 4 ∧ ∀ m ∈ r, m < 64 := fun r hr => ⟨(ok0.m r hr).1, fun m hm => Nat.lt_of_lt_of_le ((ok0.m r hr).2 m hm).2 (Nat.pow_le_pow_right (by decide) (show n ≤ 6 from by have := ok0.v; omega))⟩
    refine ⟨d, rfl, _, (g _ (Same.refl _)).2.2, al, rfl, _, hl, by omega, by omega, ?_⟩
    rw [ll, show ((links : Int) - (ls0.length : Int)).toNat = links - ls0.length from by omega]
    have fin : ∀ (H' : Hp) (i : Nat), i ≤ links - ls0.length → (Off1 p H H' ∧ PoolAt H' p c ∧ ∃ ls, DNet H' d n rows ls ∧ ls.length ≤ ls0.length + i ∧ ∀ l ∈ ls, l.1 < rows.length ∧ l.2 < rows.length ∧ l.1 ≠ l.2) → Q (.ref d) H' := fun H' i hi ⟨k, pp, ls, N, l1, l2⟩ =>
      q n rows ls d H' ⟨ok0.v, ok0.r1, ok0.r2, ok0.m, by omega, l2⟩ k pp hd N
    refine forRng (fun i σ H' => (∃ v4 v5 v6 v7 v8, σ = [some (.ref p), some (.int nodes), some (.int links), some (.ref d), v4, v5, v6, v7, v8]) ∧ Off1 p H H' ∧ PoolAt H' p c ∧ ∃ ls, DNet H' d n rows ls ∧ ls.length ≤ ls0.length + i ∧ ∀ l ∈ ls, l.1 < rows.length ∧ l.2 < rows.length ∧ l.1 ≠ l.2) ⟨⟨_, _, _, _, _, rfl⟩, k1, p1, ls0, N0, Nat.le_refl _, ok0.k⟩ ?_ ?_
    · rintro i σ H2 hi ⟨⟨v4, v5, v6, v7, v8, rfl⟩, k2, p2, ls, N2, l1, l2⟩
      simp only [gStr2, gSeqH, tDc_c, tDGet, sDPut, rCat, tBreak, rExtend, tSeq, tAsg, tRet, tRetN, tDrop, tIfS, tNext, tNever, tOp, tUn, tVar, tC, rI0, rI, rU, tTest, tIf, tB, tAnd, tOr, tNot, tAndV, tOrV, tNotV, gName, gSub, gTupH, gCons, gNil, tYes, tCons, tNil, tLst, tTup, tCB, tCall, tMeth, tMake, tFld, sFld, tFor_c, tLc_c, iRng1, iList, iTup, iStr, iSeqB, iEnumB, tM1, tSl, tPart, tNoPart, rSlS, rIxS, tBM, rAppend, tIf, rEq, rNe, scal, hIx, hIxT, hIxB, hSet, hInt, hIntB, hLen, hLenT, hLenB, L2.start, wipe, List.map_cons, List.map_nil, List.set_cons_zero, List.set_cons_succ, List.set_nil, List.length_cons, List.length_nil, List.length_map, List.cons_append, List.nil_append, List.append_nil, List.replicate, List.getElem?_cons_zero, List.getElem?_cons_succ, Option.some.injEq, V.int.injEq, V.bl.injEq, V.ref.injEq, V.str.injEq, List.cons.injEq, exists_eq_left', exists_eq_left, exists_and_left, and_assoc, upd_same, upd_upd, HO.lst.injEq, HO.tup.injEq, atI_0, atI_1, atI_2, atI_3, set_1, set_2, set_3, CDiv, CPow, CMul, List.length_set, Int.reduceToNat, Int.reduceLE, Int.reduceLT, Int.reducePow, Int.reduceNeg, Nat.reduceAdd, Nat.reduceLT, Nat.reduceLeDiff, Nat.reducePow, Nat.zero_add, or_true, true_or, gt_iff_lt, ge_iff_le, and_true, true_and, decide_eq_true_eq, if_true, Bool.false_eq_true, if_false]
      refine ⟨d, n, rows, ls, rfl, N2, by omega, h64, by omega, fun H3 s3 => ⟨rfl, ?_⟩⟩
      have N3 := N2.same s3
      have p3 := p2.same s3
      have k3 : Off1 p H H3 := k2.tr (Off1.of s3)
      rcases fdef_cases ls (show rows.length ≤ 6 by omega) with h0 | ⟨hin, hne, hlet⟩
      · rw [h0]
        refine ite2 (fun _ => fin H3 i (by omega) ⟨k3, p3, ls, N3, l1, l2⟩) fun c => absurd (show V.str (tx []) = V.str (Str.ofString "") from rfl) c
      · generalize fdef rows ls = st at hin hne hlet ⊢
        refine ite2 (fun c => absurd (tx_inj (m := []) (V.str.inj c)) hne) fun _ => ?_
        obtain ⟨an3, al3, hR3, hl3, g3⟩ := N3.gets
        obtain ⟨xs, ex, lx, hx⟩ := hR3.at
        rw [List.length_map] at lx
        have anp : an3 ≠ p := p3.ne_refs hR3.ex.choose_spec.1
        refine ⟨_, (g3 _ (Same.refl _)).2.1, an3, rfl, xs, ex, by decide +kernel, ?_⟩
        rw [lx, show cutS (Str.ofString "ABCDEF") none (some (rows.length : Int)) = tx (AN.take rows.length) from cutN (by omega)]
        have lAN : (AN.take rows.length).length = rows.length := by
          rw [List.length_take, AN_len]
          omega
        refine lcStr (x := tx (AN.take rows.length)) (fun j D H' => H' D = some (.lst ((((AN.take rows.length).take j).filter fun c => !decide (c ∈ st)).map fun c => V.str (tx [c]))) ∧ Same H3 H') (fun D hD => ⟨upd_same, same_new hD⟩) ?_ ?_
        · rintro j ch D H4 hD hc ⟨eD, s4⟩
          have hc : (AN.take rows.length)[j]? = some ch := hc
          refine ⟨rfl, ?_⟩
          simp only [gStr2, gSeqH, tDc_c, tDGet, sDPut, rCat, tBreak, rExtend, tSeq, tAsg, tRet, tRetN, tDrop, tIfS, tNext, tNever, tOp, tUn, tVar, tC, rI0, rI, rU, tTest, tIf, tB, tAnd, tOr, tNot, tAndV, tOrV, tNotV, gName, gSub, gTupH, gCons, gNil, tYes, tCons, tNil, tLst, tTup, tCB, tCall, tMeth, tMake, tFld, sFld, tFor_c, tLc_c, iRng1, iList, iTup, iStr, iSeqB, iEnumB, tM1, tSl, tPart, tNoPart, rSlS, rIxS, tBM, rAppend, tIf, rEq, rNe, scal, hIx, hIxT, hIxB, hSet, hInt, hIntB, hLen, hLenT, hLenB, L2.start, wipe, List.map_cons, List.map_nil, List.set_cons_zero, List.set_cons_succ, List.set_nil, List.length_cons, List.length_nil, List.length_map, List.cons_append, List.nil_append, List.append_nil, List.replicate, List.getElem?_cons_zero, List.getElem?_cons_succ, Option.some.injEq, V.int.injEq, V.bl.injEq, V.ref.injEq, V.str.injEq, List.cons.injEq, exists_eq_left', exists_eq_left, exists_and_left, and_assoc, upd_same, upd_upd, HO.lst.injEq, HO.tup.injEq, atI_0, atI_1, atI_2, atI_3, set_1, set_2, set_3, CDiv, CPow, CMul, List.length_set, Int.reduceToNat, Int.reduceLE, Int.reduceLT, Int.reducePow, Int.reduceNeg, Nat.reduceAdd, Nat.reduceLT, Nat.reduceLeDiff, Nat.reducePow, Nat.zero_add, or_true, true_or, gt_iff_lt, ge_iff_le, and_true, true_and, decide_eq_true_eq, if_true, Bool.false_eq_true, if_false]
          refine ⟨ch, rfl, ?_⟩
          rw [show (tx st).cps.toList = st from rfl]
          have key : (((AN.take rows.length).take (j + 1)).filter fun c => !decide (c ∈ st)) = (((AN.take rows.length).take j).filter fun c => !decide (c ∈ st)) ++ if (!decide (ch ∈ st)) = true then [ch] else [] := by
            rw [take_s hc, List.filter_append]
            congr 1
            rw [List.filter_cons]
            rfl
          have lnow : (((AN.take rows.length).take j).filter fun c => !decide (c ∈ st)).length ≤ rows.length := Nat.le_trans (List.length_filter_le _ _) (Nat.le_trans (List.length_take_le' _ _) (by omega))
          refine ite2 (fun c1 => ?_) fun c1 => ?_
          · refine ⟨_, eD, by rw [List.length_map]; exact small1000 (by omega), ?_, same_out s4 hD⟩
            rw [key, if_pos c1, List.map_append]
            rfl
          · rw [key, if_neg c1, List.append_nil]
            exact ⟨eD, s4⟩
        · rintro D H4 hD ⟨eD, s4⟩
          rw [show (lt (tx (AN.take rows.length))).length = (AN.take rows.length).length from rfl, List.take_of_length_le (Nat.le_refl _)] at eD
          have p4 := p3.same s4
          have N4 := N3.same s4
          have k4 : Off1 p H H4 := k3.tr (Off1.of s4)
          generalize hO : (AN.take rows.length).filter (fun c => !decide (c ∈ st)) = os at eD
          refine ⟨!(os.map fun c => V.str (tx [c])).isEmpty, .inl ⟨_, SqL.of eD, rfl⟩, ?_⟩
          by_cases ho : os = []
          · rw [ho]
            refine ite2 (fun _ => fin H4 i (by omega) ⟨k4, p4, ls, N4, l1, l2⟩) fun c => absurd rfl c
          · refine ite2 (fun c => absurd c ?_) fun _ => ?_
            · cases os with
              | nil => exact absurd rfl ho
              | cons y r => exact Bool.false_ne_true
            obtain ⟨an4, al4, hR4, hl4, g4⟩ := N4.gets
            have Dp : D ≠ p := p3.ne_p hD
            have al4p : al4 ≠ p := p4.ne_strs (xs := ls.map lkt) (by rw [← lks_strs]; exact hl4)
            have los : os.length ≤ 6 := by
              rw [← hO]
              exact Nat.le_trans (List.length_filter_le _ _) (by omega)
            refine ⟨_, (g4 _ (Same.refl _)).2.2, p, c, D, _, rfl, p4, eD, Dp, fun z => ho (List.map_eq_nil_iff.mp z), by rw [List.length_map]; omega, fun x H5 hx5 k5 p5 => ?_⟩
            obtain ⟨ch, hch, rfl⟩ := List.mem_map.mp hx5
            have hco : ch ∈ AN.take rows.length ∧ ¬ ch ∈ st := by
              rw [← hO] at hch
              have z := List.mem_filter.mp hch
              refine ⟨z.1, fun y => ?_⟩
              rw [decide_eq_true y] at z
              cases z.2
            obtain ⟨s1, hs1, es1⟩ := List.mem_iff_getElem.mp hco.1
            rw [lAN] at hs1
            have ech : ch = 65 + s1 := by
              have z := ANt_at hs1 (show rows.length ≤ 26 by omega)
              rw [List.getElem?_eq_getElem (by omega), es1] at z
              exact Option.some.inj z
            have lst6 : st.length ≤ 64 := by
              have z : ∀ n < 7, ∀ s ∈ osets n, s.length ≤ 64 := by decide +kernel
              exact z _ (by omega) st hin
            have hst0 : 0 < st.length := List.length_pos_iff.mpr hne
            refine ⟨tx st, rfl, by rw [len_tx]; exact sizeLe (by omega), ?_⟩
            refine take_pool p5 (by rw [len_tx]; omega) (by rw [len_tx]; omega) fun e H6 e0 e1 k6 _ p6 => ?_
            rw [len_tx] at e1
            obtain ⟨e, rfl⟩ := Int.eq_ofNat_of_zero_le e0
            have he : e < st.length := by omega
            have hse : st[e]? = some st[e] := List.getElem?_eq_getElem he
            have hle := hlet st[e] (List.getElem_mem he)
            obtain ⟨r1, hr1'⟩ : ∃ r1, st[e] = 65 + r1 := ⟨st[e] - 65, by omega⟩
            have k46 : Off1 p H4 H6 := k5.tr k6
            have N6 := N4.off p4 k46
            refine ⟨tx st, rfl, _, rfl, by rw [len_tx]; exact sizeLe (by omega), st[e], atI_nat hse, tx [ch], rfl, Nat.le_of_ble_eq_true rfl, Nat.le_of_ble_eq_true rfl, fun u hu => ?_⟩
            have s6 := same_new (o := .lst [V.str (tx [ch] ++ (⟨#[st[e]]⟩ : Str))]) hu
            have el6 := k46 _ _ al4p hl4
            refine ⟨al4, rfl, _, s6 _ _ el6, by rw [List.length_map]; exact sizeLe (by omega), fun G hG => ?_⟩
            have s7 := Same.tr s6 (same_new (o := .lst (lks ls ++ [V.str (tx [ch] ++ (⟨#[st[e]]⟩ : Str))])) hG)
            have eG : lks ls ++ [V.str (tx [ch] ++ (⟨#[st[e]]⟩ : Str))] = lks (ls ++ [(s1, r1)]) := by
              rw [show (⟨#[st[e]]⟩ : Str) = tx [st[e]] from rfl, tx_app, ech, hr1', lks, lks, List.map_append]
              rfl
            rw [eG] at s7 ⊢
            obtain ⟨o, dput, N8⟩ := (N6.same s7).put (G := G) (ls' := ls ++ [(s1, r1)]) upd_same
            refine ⟨_, dput, ⟨_, rfl⟩, ((k4.tr k46).tr (Off1.of s7)).wr hd, (p6.same s7).wr dp dc, _, N8, by rw [List.length_append]; simp only [List.length_cons, List.length_nil]; omega, fun l hl => ?_⟩
            rcases List.mem_append.mp hl with z | z
            · exact l2 l z
            · rw [List.mem_singleton.mp z]
              refine ⟨hs1, by omega, fun y => hco.2 ?_⟩
              have y : s1 = r1 := y
              rw [ech, y, ← hr1']
              exact List.getElem_mem he
    · rintro σ H2 ⟨⟨v4, v5, v6, v7, v8, rfl⟩, z⟩
      simp only [tSeq, tAsg, tRet, tRetN, tDrop, tIfS, tNext, tNever, tOp, tUn, tVar, tC, rI0, rI, rU, tTest, tIf, tB, tAnd, tOr, tNot, tAndV, tOrV, tNotV, gName, gSub, gTupH, gCons, gNil, tYes, tCons, tNil, tLst, tTup, tCB, tCall, tMeth, tMake, tFld, sFld, tFor_c, tLc_c, iRng1, iList, iTup, iStr, iSeqB, iEnumB, tM1, tSl, tPart, tNoPart, rSlS, rIxS, tBM, rAppend, tIf, rEq, rNe, scal, hIx, hIxT, hIxB, hSet, hInt, hIntB, hLen, hLenT, hLenB, L2.start, wipe, List.map_cons, List.map_nil, List.set_cons_zero, List.set_cons_succ, List.set_nil, List.length_cons, List.length_nil, List.length_map, List.cons_append, List.nil_append, List.append_nil, List.replicate, List.getElem?_cons_zero, List.getElem?_cons_succ, Option.some.injEq, V.int.injEq, V.bl.injEq, V.ref.injEq, V.str.injEq, List.cons.injEq, exists_eq_left', exists_eq_left, exists_and_left, and_assoc, upd_same, upd_upd, HO.lst.injEq, HO.tup.injEq, atI_0, atI_1, atI_2, atI_3, set_1, set_2, set_3, CDiv, CPow, CMul, List.length_set, Int.reduceToNat, Int.reduceLE, Int.reduceLT, Int.reducePow, Int.reduceNeg, Nat.reduceAdd, Nat.reduceLT, Nat.reduceLeDiff, Nat.reducePow, Nat.zero_add, or_true, true_or, gt_iff_lt, ge_iff_le, and_true, true_and, decide_eq_true_eq, if_true, Bool.false_eq_true, if_false]
      exact fin H2 _ (Nat.le_refl _) z
theorem ok_law_network (T : Txt K mg a) : FnOk P w K mg base CX0 8 a.a_law_network a.d_law_network ["pool", "nodes", "links"] spDrawn := by
  have G_law_take := ok_law_take (P := P) (w := w) (base := base) T
  have G_law_drawn := (ok_law_drawn (P := P) (w := w) (base := base) T).mono (by decide : 6 ≤ 7)
  have G_law_filled := ok_law_filled (P := P) (w := w) (base := base) T
  refine T.F_law_network.ok sc_law_network (fun vs H Q E h => ?_) (fun cdv A outer s H vs Q E hr h => ?_)
  · obtain ⟨_, _, _, _, rfl, _⟩ := h
    rfl
  · obtain ⟨p, c, nodes, links, rfl, n1, n6, l16, hP, q⟩ := h
    refine ⟨_, (pss_cons (ps_set (i := 3) sc_law_network.nd rfl (.inl rfl) (pe_call G_law_take (hr.mono (by first | decide | exact Nat.le_refl _ | omega)) (by rfl) T.g_law_take T.F_law_take.kp T.b_law_take .nil pass0 (pa_cons (pv 0) (pa_cons pe_int pa_nil))))
      (pss_cons (ps_if (pt_cmpR op_eq (pv 3) pe_int (nomark _))
      (pss_one (ps_ret (pe_call G_law_drawn (hr.mono (by first | decide | exact Nat.le_refl _ | omega)) (by rfl) T.g_law_drawn T.F_law_drawn.kp T.b_law_drawn .nil pass0 (pa_cons (pv 0) (pa_cons (pv 1) (pa_cons (pv 2) pa_nil))))))
      pss_nil)
      (pss_cons (ps_set (i := 4) sc_law_network.nd rfl (.inl rfl) (pe_call G_law_filled (hr.mono (by first | decide | exact Nat.le_refl _ | omega)) (by rfl) T.g_law_filled T.F_law_filled.kp T.b_law_filled .nil pass0 (pa_cons (pv 0) (pa_cons (pv 1) (pa_cons (pv 2) pa_nil)))))
      (pss_cons (ps_if (PW.pt (pw_and (pt_cmpR op_eq (pv 3) pe_int (nomark _)) (pw_and1 (pt_truth (pe_dget (units1 hr) (pv 4) pe_str (fun _ _ => rfl)) (by intro _; rfl)))))
      (pss_cons (ps_set (i := 5) sc_law_network.nd rfl (.inl rfl) (pe_call G_law_take (hr.mono (by first | decide | exact Nat.le_refl _ | omega)) (by rfl) T.g_law_take T.F_law_take.kp T.b_law_take .nil pass0 (pa_cons (pv 0) (pa_cons (pe_callB callLen (by rfl) T.z_len PySem.boot_len (pa_cons (pe_dget (units1 hr) (pv 4) pe_str (fun _ _ => rfl)) pa_nil)) pa_nil))))
      (pss_one (ps_dput (units1 hr) (pv 4) pe_str (pe_op op_cat (pe_slice sl_list (pe_dget (units1 hr) (pv 4) pe_str (fun _ _ => rfl)) po_none (po_some (pv 5))) (pe_slice sl_list (pe_dget (units1 hr) (pv 4) pe_str (fun _ _ => rfl)) (po_some (pe_op op_add (pv 5) pe_int)) po_none)) rfl)))
      pss_nil)
      (pss_cons (ps_if (PW.pt (pw_and (pt_cmpR op_eq (pv 3) pe_int (nomark _)) (pw_and1 (pt_truth (pe_dget (units1 hr) (pv 4) pe_str (fun _ _ => rfl)) (by intro _; rfl)))))
      (pss_cons (ps_set (i := 5) sc_law_network.nd rfl (.inl rfl) (pe_call G_law_take (hr.mono (by first | decide | exact Nat.le_refl _ | omega)) (by rfl) T.g_law_take T.F_law_take.kp T.b_law_take .nil pass0 (pa_cons (pv 0) (pa_cons (pe_callB callLen (by rfl) T.z_len PySem.boot_len (pa_cons (pe_dget (units1 hr) (pv 4) pe_str (fun _ _ => rfl)) pa_nil)) pa_nil))))
      (pss_cons (ps_set (i := 6) sc_law_network.nd rfl (.inl rfl) (pe_ix ixH (pe_dget (units1 hr) (pv 4) pe_str (fun _ _ => rfl)) (pv 5) (fun _ _ => rfl)))
      (pss_one (ps_dput (units1 hr) (pv 4) pe_str (pe_op op_cat (pe_op op_cat (pe_slice sl_list (pe_dget (units1 hr) (pv 4) pe_str (fun _ _ => rfl)) po_none (po_some (pv 5))) (pe_lst (pa_cons (pe_op op_add_str (pe_ix ix_str (pv 6) pe_int (fun _ _ => rfl)) (pe_ix ix_str (pv 6) pe_int (fun _ _ => rfl))) pa_nil))) (pe_slice sl_list (pe_dget (units1 hr) (pv 4) pe_str (fun _ _ => rfl)) (po_some (pe_op op_add (pv 5) pe_int)) po_none)) rfl))))
      pss_nil)
      (pss_one (ps_ret (pv 4)))))))), ?_⟩
    simp only [gStr2, gSeqH, tDc_c, tDGet, sDPut, rCat, tBreak, rExtend, tSeq, tAsg, tRet, tRetN, tDrop, tIfS, tNext, tNever, tOp, tUn, tVar, tC, rI0, rI, rU, tTest, tIf, tB, tAnd, tOr, tNot, tAndV, tOrV, tNotV, gName, gSub, gTupH, gCons, gNil, tYes, tCons, tNil, tLst, tTup, tCB, tCall, tMeth, tMake, tFld, sFld, tFor_c, tLc_c, iRng1, iList, iTup, iStr, iSeqB, iEnumB, tM1, tSl, tPart, tNoPart, rSlS, rIxS, tBM, rAppend, tIf, rEq, rNe, scal, hIx, hIxT, hIxB, hSet, hInt, hIntB, hLen, hLenT, hLenB, L2.start, wipe, List.map_cons, List.map_nil, List.set_cons_zero, List.set_cons_succ, List.set_nil, List.length_cons, List.length_nil, List.length_map, List.cons_append, List.nil_append, List.append_nil, List.replicate, List.getElem?_cons_zero, List.getElem?_cons_succ, Option.some.injEq, V.int.injEq, V.bl.injEq, V.ref.injEq, V.str.injEq, List.cons.injEq, exists_eq_left', exists_eq_left, exists_and_left, and_assoc, upd_same, upd_upd, HO.lst.injEq, HO.tup.injEq, atI_0, atI_1, atI_2, atI_3, set_1, set_2, set_3, CDiv, CPow, CMul, List.length_set, Int.reduceToNat, Int.reduceLE, Int.reduceLT, Int.reducePow, Int.reduceNeg, Nat.reduceAdd, Nat.reduceLT, Nat.reduceLeDiff, Nat.reducePow, Nat.zero_add, or_true, true_or, gt_iff_lt, ge_iff_le, and_true, true_and, decide_eq_true_eq, if_true, Bool.false_eq_true, if_false]
    refine take_pool hP (by decide) (by decide) fun kd H1 d0 d1 k1 _ p1 => ⟨rfl, ?_⟩
    refine ite2 (fun _ => ?_) fun c0 => ?_
    · exact ⟨p, c, nodes, links, rfl, n1, n6, l16, p1, fun n rows ls d H2 ok k2 p2 hd N => q n rows ls d H2 ok (k1.tr k2) p2 (k1.fresh p1 hd) N⟩
    refine ⟨p, c, nodes, links, rfl, n1, n6, l16, p1, fun n rows ls d H2 ok k2 p2 hd N => ⟨rfl, ?_⟩⟩
    have hd0 : H d = none := k1.fresh p1 hd
    have k12 : Off1 p H H2 := k1.tr k2
    have dp : d ≠ p := p1.ne_p hd
    have dc : d ≠ c := p1.ne_c hd
    obtain ⟨an, al, hR, hl, g⟩ := N.gets
    have l1 := ok.l
    have alp : al ≠ p := p2.ne_strs (xs := ls.map lkt) (by rw [← lks_strs]; exact hl)
    have tru : ∀ (K' : PySem.W.Frag) (H' : Hp), H' al = some (.lst (lks ls)) → TruV K' (.ref al) H' (!(lks ls).isEmpty) := fun K' H' e => .inl ⟨_, SqL.of e, rfl⟩
    have emp : ¬ (!(lks ls).isEmpty) = true → ls = [] := fun h => by
      cases ls with
      | nil => rfl
      | cons y r => exact absurd rfl h
    have pos : (!(lks ls).isEmpty) = true → 0 < ls.length := fun h => by
      cases ls with
      | nil => cases h
      | cons y r => exact Nat.succ_pos _
    have ll : (lks ls).length = ls.length := List.length_map _
    refine ite2 (fun c1 => ?_) fun c1 => ?_
    · refine ⟨d, rfl, _, (g _ (Same.refl _)).2.2, _, tru _ _ hl, ite2 (fun ht => ?_) fun ht => ?_⟩
      · refine ⟨d, rfl, _, (g _ (Same.refl _)).2.2, al, rfl, _, hl, ?_⟩
        have := pos ht
        refine take_pool p2 (by omega) (by omega) fun e H3 e0 e1 k3 _ p3 => ?_
        obtain ⟨e, rfl⟩ := Int.eq_ofNat_of_zero_le e0
        have he : e < ls.length := by omega
        have N3 := N.off p2 k3
        obtain ⟨an3, al3, hR3, hl3, g3⟩ := N3.gets
        refine ⟨d, rfl, _, (g3 _ (Same.refl _)).2.2, (e : Int), rfl, al3, _, rfl, SqL.of hl3, fun D1 hD1 => ?_⟩
        rw [cutV_take]
        have s1 := same_new (o := .lst ((lks ls).take e)) hD1
        refine ⟨d, rfl, _, (g3 _ s1).2.2, (e : Int), rfl, al3, _, rfl, SqL.of (s1 _ _ hl3), fun D2 hD2 => ?_⟩
        rw [show ((e : Int) + 1) = ((e + 1 : Nat) : Int) from rfl, cutV_drop]
        have s2 := Same.tr s1 (same_new (o := .lst ((lks ls).drop (e + 1))) hD2)
        have e12 : D1 ≠ D2 := fun z => by
          rw [← z, upd_same] at hD2
          cases hD2
        refine ⟨D1, rfl, D2, rfl, _, by rw [upd_ne e12]; exact upd_same, _, upd_same, ?_, fun G hG => ?_⟩
        · rw [List.length_take, List.length_drop]
          exact sizeLe (by omega)
        rw [show (lks ls).take e ++ (lks ls).drop (e + 1) = lks (ls.take e ++ ls.drop (e + 1)) from by rw [lks, lks, List.map_append, List.map_take, List.map_drop]] at *
        have s3 := Same.tr s2 (same_new (o := .lst (lks (ls.take e ++ ls.drop (e + 1)))) hG)
        obtain ⟨o, dput, N8⟩ := (N3.same s3).put (G := G) (ls' := ls.take e ++ ls.drop (e + 1)) upd_same
        refine ⟨d, rfl, _, dput, rfl, ite2 (fun c => absurd (V.int.inj c) (by have := V.int.inj c1; omega)) fun _ => ?_⟩
        refine q n rows _ d _ ⟨ok.v, ok.r1, ok.r2, ok.m, ?_, fun l hl => ?_⟩ (((k12.tr k3).tr (Off1.of s3)).wr hd0) ((p3.same s3).wr dp dc) hd0 N8
        · rw [List.length_append, List.length_take, List.length_drop]
          omega
        · rcases List.mem_append.mp hl with z | z
          · exact ok.k l (List.mem_of_mem_take z)
          · exact ok.k l (List.mem_of_mem_drop z)
      · refine ⟨rfl, ite2 (fun c => absurd (V.int.inj c) (by have := V.int.inj c1; omega)) fun _ => ?_⟩
        exact q n rows ls d H2 ok k12 p2 hd0 N
    · refine ⟨rfl, ite2 (fun c2 => ?_) fun _ => q n rows ls d H2 ok k12 p2 hd0 N⟩
      refine ⟨d, rfl, _, (g _ (Same.refl _)).2.2, _, tru _ _ hl, ite2 (fun ht => ?_) fun _ => q n rows ls d H2 ok k12 p2 hd0 N⟩
      refine ⟨d, rfl, _, (g _ (Same.refl _)).2.2, al, rfl, _, hl, ?_⟩
      have := pos ht
      refine take_pool p2 (by omega) (by omega) fun e H3 e0 e1 k3 _ p3 => ?_
      obtain ⟨e, rfl⟩ := Int.eq_ofNat_of_zero_le e0
      have he : e < ls.length := by omega
      have hle : ls[e]? = some ls[e] := List.getElem?_eq_getElem he
      have N3 := N.off p2 k3
      obtain ⟨an3, al3, hR3, hl3, g3⟩ := N3.gets
      refine ⟨d, rfl, _, (g3 _ (Same.refl _)).2.2, al3, rfl, _, (e : Int), rfl, hl3, .str (lkt ls[e]), atI_nat (by rw [List.getElem?_map, hle]; rfl), ?_⟩
      refine ⟨d, rfl, _, (g3 _ (Same.refl _)).2.2, (e : Int), rfl, al3, _, rfl, SqL.of hl3, fun D1 hD1 => ?_⟩
      rw [cutV_take]
      have s1 := same_new (o := .lst ((lks ls).take e)) hD1
      refine ⟨lkt ls[e], rfl, Nat.le_of_ble_eq_true rfl, 65 + ls[e].2, atI_1, lkt ls[e], rfl, Nat.le_of_ble_eq_true rfl, 65 + ls[e].1, atI_0, Nat.le_of_ble_eq_true rfl, Nat.le_of_ble_eq_true rfl, fun u hu => ?_⟩
      have ew : (⟨#[65 + ls[e].2]⟩ : Str) ++ (⟨#[65 + ls[e].1]⟩ : Str) = lkt (ls[e].2, ls[e].1) := tx_app [65 + ls[e].2] [65 + ls[e].1]
      rw [ew]
      have s2 := Same.tr s1 (same_new (o := .lst [V.str (lkt (ls[e].2, ls[e].1))]) hu)
      have D1u : D1 ≠ u := fun z => by
        rw [← z, upd_same] at hu
        cases hu
      refine ⟨D1, rfl, _, by rw [upd_ne D1u]; exact upd_same, by rw [List.length_take]; exact sizeLe (by omega), fun B hB => ?_⟩
      have s3 := Same.tr s2 (same_new (o := .lst ((lks ls).take e ++ [V.str (lkt (ls[e].2, ls[e].1))])) hB)
      refine ⟨d, rfl, _, (g3 _ s3).2.2, (e : Int), rfl, al3, _, rfl, SqL.of (s3 _ _ hl3), fun D2 hD2 => ?_⟩
      rw [show ((e : Int) + 1) = ((e + 1 : Nat) : Int) from rfl, cutV_drop]
      have s4 := Same.tr s3 (same_new (o := .lst ((lks ls).drop (e + 1))) hD2)
      have BD2 : B ≠ D2 := fun z => by
        rw [← z, upd_same] at hD2
        cases hD2
      refine ⟨D2, rfl, _, by rw [upd_ne BD2]; exact upd_same, _, upd_same, ?_, fun G hG => ?_⟩
      · rw [List.length_append, List.length_take, List.length_drop]
        exact sizeLe (by simp only [List.length_cons, List.length_nil]; omega)
      rw [show (lks ls).take e ++ [V.str (lkt (ls[e].2, ls[e].1))] ++ (lks ls).drop (e + 1) = lks (ls.take e ++ [(ls[e].2, ls[e].1)] ++ ls.drop (e + 1)) from by rw [lks, lks, List.map_append, List.map_append, List.map_take, List.map_drop]; rfl] at *
      have s5 := Same.tr s4 (same_new (o := .lst (lks (ls.take e ++ [(ls[e].2, ls[e].1)] ++ ls.drop (e + 1)))) hG)
      obtain ⟨o, dput, N8⟩ := (N3.same s5).put (G := G) (ls' := ls.take e ++ [(ls[e].2, ls[e].1)] ++ ls.drop (e + 1)) upd_same
      refine ⟨d, rfl, _, dput, ?_⟩
      refine q n rows _ d _ ⟨ok.v, ok.r1, ok.r2, ok.m, ?_, fun l hl => ?_⟩ (((k12.tr k3).tr (Off1.of s5)).wr hd0) ((p3.same s5).wr dp dc) hd0 N8
      · rw [List.length_append, List.length_append, List.length_take, List.length_drop]
        simp only [List.length_cons, List.length_nil]
        omega
      · rcases List.mem_append.mp hl with z | z
        · rcases List.mem_append.mp z with z | z
          · exact ok.k l (List.mem_of_mem_take z)
          · rw [List.mem_singleton.mp z]
            have y := ok.k ls[e] (List.getElem_mem he)
            exact ⟨y.2.1, y.1, fun w => y.2.2 w.symm⟩
        · exact ok.k l (List.mem_of_mem_drop z)
end
end AK
set_option Elab.async false
set_option linter.all false
set_option maxRecDepth 100000
set_option maxHeartbeats 4000000
namespace AK
open PySem PySem.Spec PyProof.Rows L2
theorem RowAt.off {p r : Addr} {H H' : Hp} {xs : List V} (h : RowAt H r xs) (s : Off1 p H H') (ne : r ≠ p) : RowAt H' r xs := h.imp (s _ _ ne) (s _ _ ne)
section
variable {P : Program} {w : World} {K : PySem.W.Frag} {mg : Str → Option Value} {base : Heap} {a : Ads}
def spShapedN : Sp := fun vs H Q _ => ∃ (p c r : Addr) (xs : List V), vs = [.ref p, .ref r] ∧ PoolAt H p c ∧ RowAt H r xs ∧ r ≠ p ∧ xs.length ≤ 900 ∧ ∀ t H', Off1 p H H' → PoolAt H' p c → RowAt H' t xs → t ≠ p → (H t = none ∨ ∃ ys, H t = some (.tup ys)) → Q (.ref t) H'
theorem ok_law_shapedN (T : Txt K mg a) : FnOk P w K mg base CX0 3 a.a_law_shaped a.d_law_shaped ["pool", "rows"] spShapedN := by
  have G_law_take := ok_law_take (P := P) (w := w) (base := base) T
  refine T.F_law_shaped.ok sc_law_shaped (fun vs H Q E h => ?_) (fun cdv A outer s H vs Q E hr h => ?_)
  · obtain ⟨_, _, _, _, rfl, _⟩ := h
    rfl
  · obtain ⟨p, c, r, xs, rfl, hP, hr1, ne, hl, q⟩ := h
    refine ⟨_, (pss_one (ps_ret (pe_ix ixHT (pe_tup (pa_cons (pe_callTy callLstB (by rfl) T.z_list (by decide +kernel) (pa_cons (pv 1) pa_nil)) (pa_cons (pe_callTy callTupB (by rfl) T.z_tuple (by decide +kernel) (pa_cons (pv 1) pa_nil)) pa_nil))) (pe_call G_law_take (hr.mono (by first | decide | exact Nat.le_refl _ | omega)) (by rfl) T.g_law_take T.F_law_take.kp T.b_law_take .nil pass0 (pa_cons (pv 0) (pa_cons pe_int pa_nil))) (fun _ _ => rfl)))), ?_⟩
    simp only [tSeq, tAsg, tRet, tRetN, tDrop, tIfS, tNext, tNever, tOp, tUn, tVar, tC, rI0, rI, rU, tTest, tIf, tB, tAnd, tOr, tNot, tAndV, tOrV, tNotV, gName, gSub, gTupH, gCons, gNil, tYes, tCons, tNil, tLst, tTup, tCB, tCall, tMeth, tMake, tFld, sFld, tFor_c, tLc_c, iRng1, iList, iTup, iStr, iSeqB, iEnumB, tM1, tSl, tPart, tNoPart, rSlS, rIxS, tBM, rAppend, tIf, rEq, rNe, scal, hIx, hIxT, hIxB, hSet, hInt, hIntB, hLen, hLenT, hLenB, L2.start, wipe, List.map_cons, List.map_nil, List.set_cons_zero, List.set_cons_succ, List.set_nil, List.length_cons, List.length_nil, List.length_map, List.cons_append, List.nil_append, List.append_nil, List.replicate, List.getElem?_cons_zero, List.getElem?_cons_succ, Option.some.injEq, V.int.injEq, V.bl.injEq, V.ref.injEq, V.str.injEq, List.cons.injEq, exists_eq_left', exists_eq_left, exists_and_left, and_assoc, upd_same, upd_upd, HO.lst.injEq, HO.tup.injEq, atI_0, atI_1, atI_2, atI_3, set_1, set_2, set_3, CDiv, CPow, CMul, List.length_set, Int.reduceToNat, Int.reduceLE, Int.reduceLT, Int.reducePow, Int.reduceNeg, Nat.reduceAdd, Nat.reduceLT, Nat.reduceLeDiff, Nat.reducePow, Nat.zero_add, or_true, true_or, gt_iff_lt, ge_iff_le, and_true, true_and, decide_eq_true_eq, if_true, Bool.false_eq_true, if_false]
    refine ⟨r, xs, rfl, hr1, fun D1 h1 => ?_⟩
    have s1 := same_new (o := .lst xs) h1
    refine ⟨r, xs, rfl, hr1.imp (s1 _ _) (s1 _ _), fun D2 H2 s2 n2' e2 => ?_⟩
    refine ⟨by decide, fun D3 h3 => ?_⟩
    have s3 := same_new (o := .tup [V.ref D1, V.ref D2]) h3
    have s13 := Same.tr (Same.tr s1 s2) s3
    have p3 := hP.same s13
    refine take_pool p3 (by decide) (by decide) fun d H4 d0 d1 k4 k4' p4 => ?_
    have n1 : D1 ≠ p := hP.ne_p h1
    have n2 : D2 ≠ p := fun z => by
      obtain ⟨_, _, _, _, e, _⟩ := (hP.same (Same.tr s1 s2)).ex
      rw [z, e] at e2
      cases e2
    have n3 : D3 ≠ p := (hP.same (Same.tr s1 s2)).ne_p h3
    have e3 : H4 D3 = some (.tup [V.ref D1, V.ref D2]) := by rw [k4' D3 n3]; exact upd_same
    have k : Off1 p H H4 := (Off1.of s13).tr k4
    have c : d = 0 ∨ d = 1 := by omega
    refine ⟨_, _, rfl, e3, ?_⟩
    rcases c with rfl | rfl
    · refine ⟨_, atI_0, q D1 H4 k p4 (.inl ?_) n1 (.inl h1)⟩
      rw [k4' D1 n1]
      exact s3 _ _ (s2 _ _ upd_same)
    · refine ⟨_, atI_1, q D2 H4 k p4 (.inr ?_) n2 ?_⟩
      · rw [k4' D2 n2]
        exact s3 _ _ e2
      · have ne12 : D2 ≠ D1 := fun z => by
          rw [z] at e2
          have y := s2 _ _ (upd_same (H := H) (a := D1) (o := .lst xs))
          rw [e2] at y
          cases y
        rw [upd_ne ne12] at n2'
        rcases n2' with z | z
        · exact .inl z
        · exact .inr ⟨_, z⟩
/-- what is handed in -/
def spHanded : Sp := fun vs H Q _ => ∃ (p c d : Addr) (n : Nat) (rows : List (List Nat)) (ls : List (Nat × Nat)), vs = [.ref p, .ref d] ∧ PoolAt H p c ∧ DNet H d n rows ls ∧ rows.length ≤ 6 ∧ (∀ r ∈ rows, r.length ≤ 4) ∧ ls.length ≤ 20 ∧
  ∀ (t pn pl : Addr) (H' : Hp), Off1 p H H' → PoolAt H' p c → H' t = some (.tup [.int (n : Int), .ref pn, .ref pl]) → ArgAt H' pn (rows.map fun r => r.map pt) → RowAt H' pl (lks ls) → Q (.ref t) H'
theorem ok_law_handed (T : Txt K mg a) : FnOk P w K mg base CX0 4 a.a_law_handed a.d_law_handed ["pool", "network"] spHanded := by
  have G_law_shaped := ok_law_shapedN (P := P) (w := w) (base := base) T
  refine T.F_law_handed.ok sc_law_handed (fun vs H Q E h => ?_) (fun cdv A outer s H vs Q E hr h => ?_)
  · obtain ⟨_, _, _, _, _, _, rfl, _⟩ := h
    rfl
  · obtain ⟨p, c, d, n, rows, ls, rfl, hP, hN, h6, h4, h20, q⟩ := h
    refine ⟨_, (pss_cons (ps_set (i := 2) sc_law_handed.nd rfl (.inl rfl) (pe_call G_law_shaped (hr.mono (by first | decide | exact Nat.le_refl _ | omega)) (by rfl) T.g_law_shaped T.F_law_shaped.kp T.b_law_shaped .nil pass0 (pa_cons (pv 0) (pa_cons (pe_lc (own := [("messages", 3)]) (g := gName 3) (tt := tYes) rfl sc_law_handed.nd (pi_list (pe_dget (units1 hr) (pv 1) pe_str (fun _ _ => rfl))) (blkOk_by (own := [("messages", 3)]) (N := sc_law_handed_N) (sc := defScope s_law_handed) (by decide +kernel)) (fun _ _ _ _ _ => (pg_name (i := 3) sc_law_handed.nd rfl (.inl rfl))) (fun _ _ _ _ _ => pts_nil) (fun _ _ _ _ _ => (pe_call G_law_shaped (hr.mono (by first | decide | exact Nat.le_refl _ | omega)) (by rfl) T.g_law_shaped T.F_law_shaped.kp T.b_law_shaped .nil pass0 (pa_cons (pv 0) (pa_cons (pv 3) pa_nil))))) pa_nil))))
      (pss_one (ps_ret (pe_tup (pa_cons (pe_dget (units1 hr) (pv 1) pe_str (fun _ _ => rfl)) (pa_cons (pv 2) (pa_cons (pe_call G_law_shaped (hr.mono (by first | decide | exact Nat.le_refl _ | omega)) (by rfl) T.g_law_shaped T.F_law_shaped.kp T.b_law_shaped .nil pass0 (pa_cons (pv 0) (pa_cons (pe_dget (units1 hr) (pv 1) pe_str (fun _ _ => rfl)) pa_nil))) pa_nil))))))), ?_⟩
    simp only [gStr2, gSeqH, tDc_c, tDGet, sDPut, rCat, tBreak, rExtend, tSeq, tAsg, tRet, tRetN, tDrop, tIfS, tNext, tNever, tOp, tUn, tVar, tC, rI0, rI, rU, tTest, tIf, tB, tAnd, tOr, tNot, tAndV, tOrV, tNotV, gName, gSub, gTupH, gCons, gNil, tYes, tCons, tNil, tLst, tTup, tCB, tCall, tMeth, tMake, tFld, sFld, tFor_c, tLc_c, iRng1, iList, iTup, iStr, iSeqB, iEnumB, tM1, tSl, tPart, tNoPart, rSlS, rIxS, tBM, rAppend, tIf, rEq, rNe, scal, hIx, hIxT, hIxB, hSet, hInt, hIntB, hLen, hLenT, hLenB, L2.start, wipe, List.map_cons, List.map_nil, List.set_cons_zero, List.set_cons_succ, List.set_nil, List.length_cons, List.length_nil, List.length_map, List.cons_append, List.nil_append, List.append_nil, List.replicate, List.getElem?_cons_zero, List.getElem?_cons_succ, Option.some.injEq, V.int.injEq, V.bl.injEq, V.ref.injEq, V.str.injEq, List.cons.injEq, exists_eq_left', exists_eq_left, exists_and_left, and_assoc, upd_same, upd_upd, HO.lst.injEq, HO.tup.injEq, atI_0, atI_1, atI_2, atI_3, set_1, set_2, set_3, CDiv, CPow, CMul, List.length_set, Int.reduceToNat, Int.reduceLE, Int.reduceLT, Int.reducePow, Int.reduceNeg, Nat.reduceAdd, Nat.reduceLT, Nat.reduceLeDiff, Nat.reducePow, Nat.zero_add, or_true, true_or, gt_iff_lt, ge_iff_le, and_true, true_and, decide_eq_true_eq, if_true, Bool.false_eq_true, if_false]
    obtain ⟨an, al, hR, hl, g⟩ := hN.gets
    obtain ⟨xs, ex, lx, hx⟩ := hR.at
    rw [List.length_map] at lx
    have anp : an ≠ p := hP.ne_refs hR.ex.choose_spec.1
    have alp : al ≠ p := hP.ne_strs (xs := ls.map lkt) (by rw [← lks_strs]; exact hl)
    refine ⟨_, (g _ (Same.refl _)).2.1, an, rfl, ⟨_, SqL.of ex⟩, ?_⟩
    refine lcLst (xs := xs) (fun i D H' => ∃ as : List Addr, H' D = some (.lst (as.map V.ref)) ∧ as.length = i ∧ (∀ (k : Nat) (r : List Nat) (t : Addr), rows[k]? = some r → as[k]? = some t → RowAt H' t (ps r)) ∧ (∀ t ∈ as, t ≠ p ∧ t ≠ D) ∧ Off1 p H H' ∧ PoolAt H' p c) ?_ ?_ ?_ ?_
    · intro D hD
      refine ⟨[], upd_same, rfl, fun k r t _ h => ?_, fun t h => absurd h List.not_mem_nil, Off1.refl.new hD, hP.new hD⟩
      rw [List.getElem?_nil] at h
      cases h
    · rintro i D H' _ _ ⟨as, _, _, _, _, k, _⟩
      exact SqL.of (k _ _ anp ex)
    · rintro i x D H1 hD hi ⟨as, eD, las, rok, tne, k1, p1⟩
      have hir : i < rows.length := by
        rw [← lx]
        exact (List.getElem?_eq_some_iff.mp hi).1
      have hri : rows[i]? = some rows[i] := List.getElem?_eq_getElem hir
      obtain ⟨u, hu, eu⟩ := hx i (ps rows[i]) (by rw [List.getElem?_map, hri]; rfl)
      rw [hi] at hu
      cases Option.some.inj hu
      have up : u ≠ p := hP.ne_strs (xs := rows[i].map pt) (by rw [← ps_strs]; exact eu)
      have h4i := h4 _ (List.mem_of_getElem? hri)
      refine ⟨rfl, ?_⟩
      simp only [tSeq, tAsg, tRet, tRetN, tDrop, tIfS, tNext, tNever, tOp, tUn, tVar, tC, rI0, rI, rU, tTest, tIf, tB, tAnd, tOr, tNot, tAndV, tOrV, tNotV, gName, gSub, gTupH, gCons, gNil, tYes, tCons, tNil, tLst, tTup, tCB, tCall, tMeth, tMake, tFld, sFld, tFor_c, tLc_c, iRng1, iList, iTup, iStr, iSeqB, iEnumB, tM1, tSl, tPart, tNoPart, rSlS, rIxS, tBM, rAppend, tIf, rEq, rNe, scal, hIx, hIxT, hIxB, hSet, hInt, hIntB, hLen, hLenT, hLenB, L2.start, wipe, List.map_cons, List.map_nil, List.set_cons_zero, List.set_cons_succ, List.set_nil, List.length_cons, List.length_nil, List.length_map, List.cons_append, List.nil_append, List.append_nil, List.replicate, List.getElem?_cons_zero, List.getElem?_cons_succ, Option.some.injEq, V.int.injEq, V.bl.injEq, V.ref.injEq, V.str.injEq, List.cons.injEq, exists_eq_left', exists_eq_left, exists_and_left, and_assoc, upd_same, upd_upd, HO.lst.injEq, HO.tup.injEq, atI_0, atI_1, atI_2, atI_3, set_1, set_2, set_3, CDiv, CPow, CMul, List.length_set, Int.reduceToNat, Int.reduceLE, Int.reduceLT, Int.reducePow, Int.reduceNeg, Nat.reduceAdd, Nat.reduceLT, Nat.reduceLeDiff, Nat.reducePow, Nat.zero_add, or_true, true_or, gt_iff_lt, ge_iff_le, and_true, true_and, decide_eq_true_eq, if_true, Bool.false_eq_true, if_false]
      refine ⟨p, c, u, _, rfl, p1, .inl (k1 _ _ up eu), up, by rw [List.length_map]; omega, fun t H2 k2 p2 rt tp hn => ?_⟩
      have Dp : D ≠ p := hP.ne_p hD
      have tD : t ≠ D := fun z => by
        rw [z, eD] at hn
        rcases hn with hn | ⟨ys, hn⟩ <;> cases hn
      have eD2 := k2 _ _ Dp eD
      refine ⟨_, eD2, by rw [List.length_map]; exact small1000 (by omega), as ++ [t], by rw [List.map_append]; rfl, by rw [List.length_append, las]; rfl, fun k r v e1 e2 => ?_, fun v hv => ?_, (k1.tr k2).wr hD, p2.wr Dp (hP.ne_c hD)⟩
      · have key : v ≠ D ∧ RowAt H2 v (ps r) := by
          by_cases hk : k < as.length
          · rw [List.getElem?_append_left hk] at e2
            obtain ⟨v1, v2⟩ := tne v (List.mem_of_getElem? e2)
            exact ⟨v2, RowAt.off (rok k r v e1 e2) k2 v1⟩
          · rw [List.getElem?_append_right (by omega)] at e2
            have hz : k - as.length = 0 := by
              have := (List.getElem?_eq_some_iff.mp e2).1
              simp only [List.length_cons, List.length_nil] at this
              omega
            rw [hz] at e2
            cases Option.some.inj e2
            have hk2 : k = i := by omega
            subst hk2
            rw [hri] at e1
            cases Option.some.inj e1
            exact ⟨tD, rt⟩
        obtain ⟨vD, rv⟩ := key
        exact rv.imp (fun z => by rw [upd_ne vD]; exact z) (fun z => by rw [upd_ne vD]; exact z)
      · rcases List.mem_append.mp hv with z | z
        · exact tne v z
        · rw [List.mem_singleton.mp z]
          exact ⟨tp, tD⟩
    · rintro D H1 hD ⟨as, eD, las, rok, tne, k1, p1⟩
      have Dp : D ≠ p := hP.ne_p hD
      refine ⟨p, c, D, _, rfl, p1, .inl eD, Dp, by rw [List.length_map]; omega, fun pn H2 k2 p2 rpn pnp _ => ?_⟩
      have N2 := hN.off hP (k1.tr k2)
      obtain ⟨an2, al2, hR2, hl2, g2⟩ := N2.gets
      have al2p : al2 ≠ p := p2.ne_strs (xs := ls.map lkt) (by rw [← lks_strs]; exact hl2)
      refine ⟨_, (g2 _ (Same.refl _)).1, _, (g2 _ (Same.refl _)).2.2, ?_⟩
      refine ⟨p, c, al2, _, rfl, p2, .inl hl2, al2p, by rw [List.length_map]; omega, fun pl H3 k3 p3 rpl plp _ => ⟨by decide, fun t ht => ?_⟩⟩
      have s3 := same_new (o := .tup [V.int (n : Int), V.ref pn, V.ref pl]) ht
      have k13 : Off1 p H (upd H3 t (.tup [V.int (n : Int), V.ref pn, V.ref pl])) := ((k1.tr k2).tr k3).tr (Off1.of s3)
      refine q t pn pl _ k13 (p3.same s3) upd_same ⟨as, ?_, ?_, fun i r v e1 e2 => ?_⟩ (rpl.imp (s3 _ _) (s3 _ _))
      · exact (RowAt.off rpn k3 pnp).imp (s3 _ _) (s3 _ _)
      · rw [List.length_map, las, lx]
      · obtain ⟨r0, h0, rfl⟩ := map_at e1
        have z := rok i r0 v h0 e2
        have vp := (tne v (List.mem_of_getElem? e2)).1
        have y := RowAt.off z ((k2.tr k3).tr (Off1.of s3)) vp
        rw [← ps_strs]
        exact y
end
end AK
set_option Elab.async false
set_option linter.all false
set_option maxRecDepth 100000
set_option maxHeartbeats 4000000
namespace AK
open PySem PySem.Spec PyProof.Rows L2
/-- a Network of n variables, these messages, these links -/
abbrev NetN (C : Addr) (H : Hp) (p : Addr) (n : Nat) (rows : List (List Nat)) (ls : List (Nat × Nat)) : Prop := NetAt C H p (n : Int) (rows.map fun r => r.map pt) (ls.map lkt)
/-- its bounds -/
structure OkR (n : Nat) (rows : List (List Nat)) (ls : List (Nat × Nat)) : Prop where
  v : n ≤ 6
  r1 : 1 ≤ rows.length
  r2 : rows.length ≤ 6
  m : ∀ r ∈ rows, r.length ≤ 4 ∧ ∀ m ∈ r, m < 64
  l : ls.length ≤ 20
  k : ∀ l ∈ ls, l.1 < rows.length ∧ l.2 < rows.length ∧ l.1 ≠ l.2
section
variable {P : Program} {w : World} {K : PySem.W.Frag} {mg : Str → Option Value} {base : Heap} {a : Ads}
def spFirstM (C : Addr) : Sp := fun vs H Q _ => ∃ (p : Addr) (n : Nat) (rows : List (List Nat)) (ls : List (Nat × Nat)), vs = [.ref p] ∧ NetN C H p n rows ls ∧ OkR n rows ls ∧ ∀ D H', Same H H' → H D = none → HadAt H' D rows → Q (.ref D) H'
theorem ok_first_masks (T : Txt K mg a) : FnOk P w K mg base CX0 5 a.a_first_masks a.d_first_masks ["network"] (spFirstM a.c_Network) := by
  have G_Network_node_letters := ok_node_letters (P := P) (w := w) (base := base) T
  have G_Network_messages := ok_messages (P := P) (w := w) (base := base) T
  have G_mask_of := ok_mask_of (P := P) (w := w) (base := base) T
  refine T.F_first_masks.ok sc_first_masks (fun vs H Q E h => ?_) (fun cdv A outer s H vs Q E hr h => ?_)
  · obtain ⟨_, _, _, _, rfl, _⟩ := h
    rfl
  · obtain ⟨p, n, rows, ls, rfl, hN, ok, q⟩ := h
    obtain ⟨dx, tn, tl, as, fs, h1, h2, h3, h4, h5, h6, h7, h8, h9, h10, h11, h12⟩ := hN.ex
    refine ⟨_, (pss_cons (ps_set (i := 1) sc_first_masks.nd rfl (.inl rfl) (pe_meth0 (pv 0) T.C_Network T.M_Network_node_letters G_Network_node_letters (hr.mono (by first | decide | exact Nat.le_refl _ | omega)) T.b_Network_node_letters .nil pass0))
      (pss_one (ps_ret (pe_dc (by rfl) (own := [("node", 3)]) (g := gName 3) (tt := tYes) (tv := tLc (iTup K (tMeth a.c_Network "messages" (spMs a.c_Network a.c_NoNode) [] E0 (tVar 0) (tCons (tVar 3) tNil))) (gName 2) tYes (tCall spMask [] E0 (tCons (tVar 2) tNil)) [2])  sc_first_masks.nd (pi_str (pv 1)) (blkOk_by (own := [("node", 3)]) (N := sc_first_masks_N) (sc := defScope s_first_masks) (by decide +kernel)) (fun _ _ _ _ _ => (pg_name (i := 3) sc_first_masks.nd rfl (.inl rfl))) (fun _ _ _ _ _ => pts_nil) (fun _ _ _ _ _ => by exact (pv 3)) (fun _ _ _ _ _ => by exact (pe_lc (own := [("text", 2)]) (g := gName 2) (tt := tYes) rfl sc_first_masks.nd (pi_tup (pe_meth (pv 0) T.C_Network T.M_Network_messages G_Network_messages (hr.mono (by first | decide | exact Nat.le_refl _ | omega)) T.b_Network_messages .nil (passes_call (E := E0) takes0 (fun _ _ _ _ z => z)) (pa_cons (pv 3) pa_nil))) (blkOk_by (own := [("text", 2)]) (N := sc_first_masks_N) (sc := { kind := PySem.ScopeKind.function, names := [ (PySem.Str.ofString ".0", PySem.NameKind.local), (PySem.Str.ofString "node", PySem.NameKind.local), (PySem.Str.ofString "network", PySem.NameKind.cell)], isGenerator := false, isCoroutine := false, more := [] : PySem.Scope }) (by decide +kernel)) (fun _ _ _ _ _ => (pg_name (i := 2) sc_first_masks.nd rfl (.inl rfl))) (fun _ _ _ _ _ => pts_nil) (fun _ _ _ _ _ => (pe_call G_mask_of (hr.mono (by first | decide | exact Nat.le_refl _ | omega)) (by rfl) T.g_mask_of T.F_mask_of.kp T.b_mask_of .nil pass0 (pa_cons (pv 2) pa_nil))))))))), ?_⟩
    simp only [gStr2, gSeqH, tDc_c, tDGet, sDPut, rCat, tBreak, rExtend, tSeq, tAsg, tRet, tRetN, tDrop, tIfS, tNext, tNever, tOp, tUn, tVar, tC, rI0, rI, rU, tTest, tIf, tB, tAnd, tOr, tNot, tAndV, tOrV, tNotV, gName, gSub, gTupH, gCons, gNil, tYes, tCons, tNil, tLst, tTup, tCB, tCall, tMeth, tMake, tFld, sFld, tFor_c, tLc_c, iRng1, iList, iTup, iStr, iSeqB, iEnumB, tM1, tSl, tPart, tNoPart, rSlS, rIxS, tBM, rAppend, tIf, rEq, rNe, scal, hIx, hIxT, hIxB, hSet, hInt, hIntB, hLen, hLenT, hLenB, L2.start, wipe, List.map_cons, List.map_nil, List.set_cons_zero, List.set_cons_succ, List.set_nil, List.length_cons, List.length_nil, List.length_map, List.cons_append, List.nil_append, List.append_nil, List.replicate, List.getElem?_cons_zero, List.getElem?_cons_succ, Option.some.injEq, V.int.injEq, V.bl.injEq, V.ref.injEq, V.str.injEq, List.cons.injEq, exists_eq_left', exists_eq_left, exists_and_left, and_assoc, upd_same, upd_upd, HO.lst.injEq, HO.tup.injEq, atI_0, atI_1, atI_2, atI_3, set_1, set_2, set_3, CDiv, CPow, CMul, List.length_set, Int.reduceToNat, Int.reduceLE, Int.reduceLT, Int.reducePow, Int.reduceNeg, Nat.reduceAdd, Nat.reduceLT, Nat.reduceLeDiff, Nat.reducePow, Nat.zero_add, or_true, true_or, gt_iff_lt, ge_iff_le, and_true, true_and, decide_eq_true_eq, if_true, Bool.false_eq_true, if_false]
    refine ⟨_, _, h1, h5, p, n, _, _, rfl, hN, ?_⟩
    simp only [gStr2, gSeqH, tDc_c, tDGet, sDPut, rCat, tBreak, rExtend, tSeq, tAsg, tRet, tRetN, tDrop, tIfS, tNext, tNever, tOp, tUn, tVar, tC, rI0, rI, rU, tTest, tIf, tB, tAnd, tOr, tNot, tAndV, tOrV, tNotV, gName, gSub, gTupH, gCons, gNil, tYes, tCons, tNil, tLst, tTup, tCB, tCall, tMeth, tMake, tFld, sFld, tFor_c, tLc_c, iRng1, iList, iTup, iStr, iSeqB, iEnumB, tM1, tSl, tPart, tNoPart, rSlS, rIxS, tBM, rAppend, tIf, rEq, rNe, scal, hIx, hIxT, hIxB, hSet, hInt, hIntB, hLen, hLenT, hLenB, L2.start, wipe, List.map_cons, List.map_nil, List.set_cons_zero, List.set_cons_succ, List.set_nil, List.length_cons, List.length_nil, List.length_map, List.cons_append, List.nil_append, List.append_nil, List.replicate, List.getElem?_cons_zero, List.getElem?_cons_succ, Option.some.injEq, V.int.injEq, V.bl.injEq, V.ref.injEq, V.str.injEq, List.cons.injEq, exists_eq_left', exists_eq_left, exists_and_left, and_assoc, upd_same, upd_upd, HO.lst.injEq, HO.tup.injEq, atI_0, atI_1, atI_2, atI_3, set_1, set_2, set_3, CDiv, CPow, CMul, List.length_set, Int.reduceToNat, Int.reduceLE, Int.reduceLT, Int.reducePow, Int.reduceNeg, Nat.reduceAdd, Nat.reduceLT, Nat.reduceLeDiff, Nat.reducePow, Nat.zero_add, or_true, true_or, gt_iff_lt, ge_iff_le, and_true, true_and, decide_eq_true_eq, if_true, Bool.false_eq_true, if_false]
    have lAN : (AN.take rows.length).length = rows.length := by
      rw [List.length_take, AN_len]
      have := ok.r2
      omega
    have hr2 := ok.r2
    refine dcStr (x := tx (AN.take rows.length)) (fun i D H' => HadAt H' D (rows.take i) ∧ Same H H') ?_ ?_ ?_
    · intro D hD
      exact ⟨⟨[], upd_same, rfl, List.nodup_nil, fun i r t e => by cases e⟩, same_new hD⟩
    · rintro i c D H' hD hc ⟨hA, s1⟩
      have hc : (AN.take rows.length)[i]? = some c := hc
      have hi : i < rows.length := by
        have := (List.getElem?_eq_some_iff.mp hc).1
        omega
      have ec : c = 65 + i := by
        rw [ANt_at hi (by omega)] at hc
        exact (Option.some.inj hc).symm
      subst ec
      have hri : rows[i]? = some rows[i] := List.getElem?_eq_getElem hi
      have hm := ok.m _ (List.mem_of_getElem? hri)
      refine ⟨rfl, ?_⟩
      simp only [gStr2, gSeqH, tDc_c, tDGet, sDPut, rCat, tBreak, rExtend, tSeq, tAsg, tRet, tRetN, tDrop, tIfS, tNext, tNever, tOp, tUn, tVar, tC, rI0, rI, rU, tTest, tIf, tB, tAnd, tOr, tNot, tAndV, tOrV, tNotV, gName, gSub, gTupH, gCons, gNil, tYes, tCons, tNil, tLst, tTup, tCB, tCall, tMeth, tMake, tFld, sFld, tFor_c, tLc_c, iRng1, iList, iTup, iStr, iSeqB, iEnumB, tM1, tSl, tPart, tNoPart, rSlS, rIxS, tBM, rAppend, tIf, rEq, rNe, scal, hIx, hIxT, hIxB, hSet, hInt, hIntB, hLen, hLenT, hLenB, L2.start, wipe, List.map_cons, List.map_nil, List.set_cons_zero, List.set_cons_succ, List.set_nil, List.length_cons, List.length_nil, List.length_map, List.cons_append, List.nil_append, List.append_nil, List.replicate, List.getElem?_cons_zero, List.getElem?_cons_succ, Option.some.injEq, V.int.injEq, V.bl.injEq, V.ref.injEq, V.str.injEq, List.cons.injEq, exists_eq_left', exists_eq_left, exists_and_left, and_assoc, upd_same, upd_upd, HO.lst.injEq, HO.tup.injEq, atI_0, atI_1, atI_2, atI_3, set_1, set_2, set_3, CDiv, CPow, CMul, List.length_set, Int.reduceToNat, Int.reduceLE, Int.reduceLT, Int.reducePow, Int.reduceNeg, Nat.reduceAdd, Nat.reduceLT, Nat.reduceLeDiff, Nat.reducePow, Nat.zero_add, or_true, true_or, gt_iff_lt, ge_iff_le, and_true, true_and, decide_eq_true_eq, if_true, Bool.false_eq_true, if_false]
      have N1 := hN.same s1
      obtain ⟨dx', tn', tl', as', fs', g1, g2, g3, g4, g5, g6, g7, g8⟩ := N1.ex
      refine ⟨_, _, g1, g7, p, n, _, _, i, 65 + i, rows[i].map pt, rfl, N1, by rw [List.length_map]; exact hr2, by omega, by rw [List.length_map]; exact hc, by rw [List.getElem?_map, hri]; rfl, fun t ht => ?_⟩
      refine ⟨t, rfl, ⟨_, SqT.of ht⟩, ?_⟩
      refine lcTup (xs := (rows[i].map pt).map V.str) (fun j D2 H2 => H2 D2 = some (.lst (ni (rows[i].take j))) ∧ Same H' H2) (fun D2 hD2 => ⟨upd_same, same_new hD2⟩) (fun j D2 H2 _ _ z => SqT.of (z.2 _ _ ht)) ?_ ?_
      · rintro j x D2 H2 hD2 hx ⟨eD2, s2⟩
        obtain ⟨x1, hx1, rfl⟩ := map_at hx
        obtain ⟨m, hm1, rfl⟩ := map_at hx1
        refine ⟨rfl, ?_⟩
        simp only [gStr2, gSeqH, tDc_c, tDGet, sDPut, rCat, tBreak, rExtend, tSeq, tAsg, tRet, tRetN, tDrop, tIfS, tNext, tNever, tOp, tUn, tVar, tC, rI0, rI, rU, tTest, tIf, tB, tAnd, tOr, tNot, tAndV, tOrV, tNotV, gName, gSub, gTupH, gCons, gNil, tYes, tCons, tNil, tLst, tTup, tCB, tCall, tMeth, tMake, tFld, sFld, tFor_c, tLc_c, iRng1, iList, iTup, iStr, iSeqB, iEnumB, tM1, tSl, tPart, tNoPart, rSlS, rIxS, tBM, rAppend, tIf, rEq, rNe, scal, hIx, hIxT, hIxB, hSet, hInt, hIntB, hLen, hLenT, hLenB, L2.start, wipe, List.map_cons, List.map_nil, List.set_cons_zero, List.set_cons_succ, List.set_nil, List.length_cons, List.length_nil, List.length_map, List.cons_append, List.nil_append, List.append_nil, List.replicate, List.getElem?_cons_zero, List.getElem?_cons_succ, Option.some.injEq, V.int.injEq, V.bl.injEq, V.ref.injEq, V.str.injEq, List.cons.injEq, exists_eq_left', exists_eq_left, exists_and_left, and_assoc, upd_same, upd_upd, HO.lst.injEq, HO.tup.injEq, atI_0, atI_1, atI_2, atI_3, set_1, set_2, set_3, CDiv, CPow, CMul, List.length_set, Int.reduceToNat, Int.reduceLE, Int.reduceLT, Int.reducePow, Int.reduceNeg, Nat.reduceAdd, Nat.reduceLT, Nat.reduceLeDiff, Nat.reducePow, Nat.zero_add, or_true, true_or, gt_iff_lt, ge_iff_le, and_true, true_and, decide_eq_true_eq, if_true, Bool.false_eq_true, if_false]
        refine ⟨m, rfl, by have := hm.2 m (List.mem_of_getElem? hm1); omega, fun H3 s3 => ⟨_, s3 _ _ eD2, ?_, ?_, same_out (Same.tr s2 s3) hD2⟩⟩
        · rw [ni_len, List.length_take]
          exact small1000 (by omega)
        · rw [ni_snoc, take_s hm1]
      · rintro D2 H2 hD2 ⟨eD2, s2⟩
        rw [List.length_map, List.length_map, List.take_of_length_le (Nat.le_refl _)] at eD2
        obtain ⟨as0, a1, a2, a3, a4⟩ := (hA.same s2).ex
        have D2D : D2 ≠ D := fun z => by
          obtain ⟨as1, b1, _⟩ := hA.ex
          rw [z, b1] at hD2
          cases hD2
        have hn : D2 ∉ as0 := fun hm2 => by
          obtain ⟨k, hk, ek⟩ := List.mem_iff_getElem.mp hm2
          obtain ⟨as1, b1, b2, b3, b4⟩ := hA.ex
          have eas : as0 = as1 := by
            have z := s2 _ _ b1
            rw [a1] at z
            have y := HO.dK.inj (Option.some.inj z)
            have inj : ∀ (l m : List V) (j : Nat), hadF j l = hadF j m → l = m := by
              intro l
              induction l with
              | nil =>
                intro m j h
                cases m with
                | nil => rfl
                | cons _ _ => cases h
              | cons v l ih =>
                intro m j h
                cases m with
                | nil => cases h
                | cons w m =>
                  obtain ⟨h1, h2⟩ := List.cons.inj h
                  rw [ih m (j + 1) h2, (Prod.mk.inj h1).2]
            have w := inj _ _ 0 y
            have minj : ∀ l m : List Addr, l.map V.ref = m.map V.ref → l = m := by
              intro l
              induction l with
              | nil =>
                intro m h
                cases m with
                | nil => rfl
                | cons _ _ => cases h
              | cons v l ih =>
                intro m h
                cases m with
                | nil => cases h
                | cons w m =>
                  obtain ⟨h1, h2⟩ := List.cons.inj h
                  rw [ih m h2, V.ref.inj h1]
            exact minj _ _ w
          subst eas
          have hkr : k < (rows.take i).length := by rw [← b2]; exact hk
          have z := b4 k _ D2 (List.getElem?_eq_getElem hkr) (by rw [List.getElem?_eq_getElem hk, ek])
          rw [z] at hD2
          cases hD2
        have las : as0.length = i := by
          rw [a2, List.length_take]
          omega
        refine ⟨_, .inr (tx [65 + i]), rfl, a1, ?_, ⟨as0 ++ [D2], ?_, ?_, ?_, ?_⟩, same_out (Same.tr s1 s2) hD⟩
        · rw [hadF_len, List.length_map, las]
          exact small1000 (by omega)
        · have z := hadF_put (as0.map V.ref) (V.ref D2)
          rw [List.length_map, las] at z
          rw [upd_same, z, List.map_append]
          rfl
        · rw [List.length_append, las, List.length_take]
          simp only [List.length_cons, List.length_nil]
          omega
        · exact List.nodup_append.mpr ⟨a3, List.nodup_cons.mpr ⟨List.not_mem_nil, List.nodup_nil⟩, fun x hx y hy e => hn (by rw [List.mem_singleton.mp hy] at e; rw [← e]; exact hx)⟩
        · intro k r t e1 e2
          have key : H2 t = some (.lst (ni r)) := by
            by_cases hk : k < i
            · rw [List.getElem?_append_left (by omega)] at e2
              refine a4 k r t ?_ e2
              rw [List.getElem?_take, if_pos hk]
              rw [List.getElem?_take, if_pos (by omega)] at e1
              exact e1
            · rw [List.getElem?_append_right (by omega)] at e2
              have hz : k - as0.length = 0 := by
                have := (List.getElem?_eq_some_iff.mp e2).1
                simp only [List.length_cons, List.length_nil] at this
                omega
              rw [hz] at e2
              cases Option.some.inj e2
              rw [List.getElem?_take, if_pos (by omega), show k = i from by omega, hri] at e1
              cases Option.some.inj e1
              exact eD2
          rw [upd_ne (fun z => by rw [z, a1] at key; cases key)]
          exact key
    · rintro D H' hD ⟨hA, s1⟩
      rw [show (lt (tx (AN.take rows.length))).length = rows.length from lAN, List.take_of_length_le (Nat.le_refl _)] at hA
      exact q D H' s1 hD hA
end
end AK
set_option Elab.async false
set_option linter.all false
set_option maxRecDepth 100000
set_option maxHeartbeats 4000000
namespace AK
open PySem PySem.Spec PyProof.Rows L2 Cmb
theorem lcEnumL {g : TG} {σ : L2.St} {H : Hp} {tt : TT} {te : TE} {vs : List Nat} {Q : VK} {K : PySem.W.Frag} {a : Addr} {xs : List V} (Pv : Nat → Addr → Hp → Prop) (h0 : ∀ D, H D = none → Pv 0 D (upd H D (.lst []))) (hl : ∀ i D H', H D = none → i ≤ xs.length → Pv i D H' → SqL K H' a xs)
    (hs : ∀ i x T D H', H D = none → xs[i]? = some x → Pv i D H' → H' T = none → g (.ref T) (wipe σ vs) (upd H' T (.tup [.int (i : Nat), x])) fun σ2 H2 => wipe σ2 vs = wipe σ vs ∧ tt σ2 H2 fun b H3 => if b = true then te σ2 H3 fun y H4 => ∃ acc, H4 D = some (.lst acc) ∧ acc.length < sizeLine ∧ Pv (i + 1) D (upd H4 D (.lst (acc ++ [y]))) else Pv (i + 1) D H3)
    (hd : ∀ D H', H D = none → Pv xs.length D H' → Q (.ref D) H') : contL g tt te vs σ Q (Ite K a) H := by
  intro D hD
  refine ⟨fun i m H' => m = xs.length - i ∧ i ≤ xs.length ∧ Pv i D H', ⟨xs.length, by simp, Nat.zero_le _, h0 D hD⟩, ?_⟩
  rintro i m H' ⟨rfl, hi, p⟩
  have q := hl i D H' hD hi p
  by_cases hlt : i < xs.length
  · refine .inr ⟨⟨xs, xs[i], q, List.getElem?_eq_getElem hlt⟩, fun H' => Pv (i + 1) D H', fun H' p' => ⟨xs.length - (i + 1), by omega, rfl, hlt, p'⟩, fun y H2 hy => ?_⟩
    obtain ⟨T, x, rfl, hT, rfl, hx⟩ := hy
    exact hs i x T D H' hD (hx xs q) p hT
  · obtain rfl : i = xs.length := by omega
    exact .inl ⟨⟨xs, q, Nat.le_refl _⟩, hd D H' hD p⟩
theorem lcEnumT {g : TG} {σ : L2.St} {H : Hp} {tt : TT} {te : TE} {vs : List Nat} {Q : VK} {K : PySem.W.Frag} {a : Addr} {xs : List V} (Pv : Nat → Addr → Hp → Prop) (h0 : ∀ D, H D = none → Pv 0 D (upd H D (.lst []))) (hl : ∀ i D H', H D = none → i ≤ xs.length → Pv i D H' → SqT K H' a xs)
    (hs : ∀ i x T D H', H D = none → xs[i]? = some x → Pv i D H' → H' T = none → g (.ref T) (wipe σ vs) (upd H' T (.tup [.int (i : Nat), x])) fun σ2 H2 => wipe σ2 vs = wipe σ vs ∧ tt σ2 H2 fun b H3 => if b = true then te σ2 H3 fun y H4 => ∃ acc, H4 D = some (.lst acc) ∧ acc.length < sizeLine ∧ Pv (i + 1) D (upd H4 D (.lst (acc ++ [y]))) else Pv (i + 1) D H3)
    (hd : ∀ D H', H D = none → Pv xs.length D H' → Q (.ref D) H') : contL g tt te vs σ Q (IteT K a) H := by
  intro D hD
  refine ⟨fun i m H' => m = xs.length - i ∧ i ≤ xs.length ∧ Pv i D H', ⟨xs.length, by simp, Nat.zero_le _, h0 D hD⟩, ?_⟩
  rintro i m H' ⟨rfl, hi, p⟩
  have q := hl i D H' hD hi p
  by_cases hlt : i < xs.length
  · refine .inr ⟨⟨xs, xs[i], q, List.getElem?_eq_getElem hlt⟩, fun H' => Pv (i + 1) D H', fun H' p' => ⟨xs.length - (i + 1), by omega, rfl, hlt, p'⟩, fun y H2 hy => ?_⟩
    obtain ⟨T, x, rfl, hT, rfl, hx⟩ := hy
    exact hs i x T D H' hD (hx xs q) p hT
  · obtain rfl : i = xs.length := by omega
    exact .inl ⟨⟨xs, q, Nat.le_refl _⟩, hd D H' hD p⟩
theorem forRng1 {g : TG} {tb : TS} {D : Ends} {σ : L2.St} {H : Hp} {lo : Int} {n : Nat} (Pv : Nat → L2.St → Hp → Prop) (h0 : Pv 0 σ H) (hs : ∀ i σ H, i < n → Pv i σ H → g (.int (lo + i)) σ H fun σ2 H2 => tb { D with nx := Pv (i + 1), ct := Pv (i + 1), bk := D.nx } σ2 H2) (hd : ∀ σ H, Pv n σ H → D.nx σ H) :
    contF g tb D σ (Itr lo n) H := for_range Pv h0 hs hd
def entL (ls : List (Nat × Nat)) (s : List Nat) : List Nat := (List.range ls.length).filter fun k => !decide (65 + (ls.getD k (0, 0)).1 ∈ s) && decide (65 + (ls.getD k (0, 0)).2 ∈ s)
theorem cmb_comb : (List.range 7).all (fun n => (List.range n).all fun s => (cmbs n (s + 1)).map (fun ks => ks.map fun k => (AN.take n).getD k 0) == combs (s + 1) ((List.range n).map (65 + ·))) = true := by decide +kernel
section
variable {P : Program} {w : World} {K : PySem.W.Frag} {mg : Str → Option Value} {base : Heap} {a : Ads}
def spOrd : Sp := fun vs H Q _ => ∃ (n : Nat), vs = [.str (tx (AN.take n))] ∧ n ≤ 6 ∧ ∀ D H', Same H H' → H D = none → H' D = some (.lst ((osets n).map fun s => V.str (tx s))) → Q (.ref D) H'
theorem ok_ordered_sets (T : Txt K mg a) : FnOk P w K mg base CX0 1 a.a_ordered_sets a.d_ordered_sets ["letters"] spOrd := by
  refine T.F_ordered_sets.ok sc_ordered_sets (fun vs H Q E h => ?_) (fun cdv A outer s H vs Q E hr h => ?_)
  · obtain ⟨_, rfl, _⟩ := h
    rfl
  · obtain ⟨n, rfl, h6, q⟩ := h
    refine ⟨_, (pss_cons (ps_set (i := 1) sc_ordered_sets.nd rfl (.inl rfl) (pe_lst pa_nil))
      (pss_cons (ps_for PassesOwn.never rfl (pi_range2 (by rfl) T.z_range (pa_cons pe_int (pa_cons (pe_op op_add (pe_callB call_len_str (by rfl) T.z_len PySem.boot_len (pa_cons (pv 0) pa_nil)) pe_int) pa_nil))) (pg_name (i := 2) sc_ordered_sets.nd rfl (.inl rfl))
      (pss_one (ps_for PassesOwn.never rfl (pi_comb (by rfl) T.i_combinations (pa_cons (pv 0) (pa_cons (pv 2) pa_nil)) rfl) (pg_name (i := 3) sc_ordered_sets.nd rfl (.inl rfl))
      (pss_one (ps_expr (pe_bm PySem.F.plainAttrs_list PySem.F.slot_list_append PySem.F.type_list_append mt_append (pv 1) (pa_cons (pe_join pe_str (pv 3)) pa_nil)))))))
      (pss_one (ps_ret (pv 1))))), ?_⟩
    simp only [gStr2, gSeqH, tDc_c, tDGet, sDPut, rCat, tBreak, rExtend, tSeq, tAsg, tRet, tRetN, tDrop, tIfS, tNext, tNever, tOp, tUn, tVar, tC, rI0, rI, rU, tTest, tIf, tB, tAnd, tOr, tNot, tAndV, tOrV, tNotV, gName, gSub, gTupH, gCons, gNil, tYes, tCons, tNil, tLst, tTup, tCB, tCall, tMeth, tMake, tFld, sFld, tFor_c, tLc_c, iRng1, iList, iTup, iStr, iSeqB, iEnumB, tM1, tSl, tPart, tNoPart, rSlS, rIxS, tBM, rAppend, tIf, rEq, rNe, scal, hIx, hIxT, hIxB, hSet, hInt, hIntB, hLen, hLenT, hLenB, L2.start, wipe, List.map_cons, List.map_nil, List.set_cons_zero, List.set_cons_succ, List.set_nil, List.length_cons, List.length_nil, List.length_map, List.cons_append, List.nil_append, List.append_nil, List.replicate, List.getElem?_cons_zero, List.getElem?_cons_succ, Option.some.injEq, V.int.injEq, V.bl.injEq, V.ref.injEq, V.str.injEq, List.cons.injEq, exists_eq_left', exists_eq_left, exists_and_left, and_assoc, upd_same, upd_upd, HO.lst.injEq, HO.tup.injEq, atI_0, atI_1, atI_2, atI_3, set_1, set_2, set_3, CDiv, CPow, CMul, List.length_set, Int.reduceToNat, Int.reduceLE, Int.reduceLT, Int.reducePow, Int.reduceNeg, Nat.reduceAdd, Nat.reduceLT, Nat.reduceLeDiff, Nat.reducePow, Nat.zero_add, or_true, true_or, gt_iff_lt, ge_iff_le, and_true, true_and, decide_eq_true_eq, if_true, Bool.false_eq_true, if_false]
    refine ⟨Nat.zero_le _, fun p hp => ?_⟩
    have lAN : (AN.take n).length = n := by
      rw [List.length_take, AN_len]
      omega
    unfold iRng2
    simp only [gStr2, gSeqH, tDc_c, tDGet, sDPut, rCat, tBreak, rExtend, tSeq, tAsg, tRet, tRetN, tDrop, tIfS, tNext, tNever, tOp, tUn, tVar, tC, rI0, rI, rU, tTest, tIf, tB, tAnd, tOr, tNot, tAndV, tOrV, tNotV, gName, gSub, gTupH, gCons, gNil, tYes, tCons, tNil, tLst, tTup, tCB, tCall, tMeth, tMake, tFld, sFld, tFor_c, tLc_c, iRng1, iList, iTup, iStr, iSeqB, iEnumB, tM1, tSl, tPart, tNoPart, rSlS, rIxS, tBM, rAppend, tIf, rEq, rNe, scal, hIx, hIxT, hIxB, hSet, hInt, hIntB, hLen, hLenT, hLenB, L2.start, wipe, List.map_cons, List.map_nil, List.set_cons_zero, List.set_cons_succ, List.set_nil, List.length_cons, List.length_nil, List.length_map, List.cons_append, List.nil_append, List.append_nil, List.replicate, List.getElem?_cons_zero, List.getElem?_cons_succ, Option.some.injEq, V.int.injEq, V.bl.injEq, V.ref.injEq, V.str.injEq, List.cons.injEq, exists_eq_left', exists_eq_left, exists_and_left, and_assoc, upd_same, upd_upd, HO.lst.injEq, HO.tup.injEq, atI_0, atI_1, atI_2, atI_3, set_1, set_2, set_3, CDiv, CPow, CMul, List.length_set, Int.reduceToNat, Int.reduceLE, Int.reduceLT, Int.reducePow, Int.reduceNeg, Nat.reduceAdd, Nat.reduceLT, Nat.reduceLeDiff, Nat.reducePow, Nat.zero_add, or_true, true_or, gt_iff_lt, ge_iff_le, and_true, true_and, decide_eq_true_eq, if_true, Bool.false_eq_true, if_false]
    have hz : (tx (AN.take n)).length = n := by rw [len_tx, lAN]
    rw [hz]
    refine ⟨sizeLe (by omega), by omega, by omega, ?_⟩
    rw [show ((n : Int) + 1 - 1).toNat = n from by omega]
    refine forRng1 (fun i σ H' => (∃ (v2 v3 : Option V), σ = [some (.str (tx (AN.take n))), some (.ref p), v2, v3]) ∧ H' p = some (.lst (((List.range i).flatMap fun s => combs (s + 1) ((List.range n).map (65 + ·))).map fun s => V.str (tx s))) ∧ Same H H') ⟨⟨_, _, rfl⟩, upd_same, same_new hp⟩ ?_ ?_
    · rintro i σ H' hi ⟨⟨v2, v3, rfl⟩, ep, s1⟩
      have cs := eq_of_beq (List.all_eq_true.mp (List.all_eq_true.mp cmb_comb n (List.mem_range.mpr (by omega))) i (List.mem_range.mpr hi))
      have lc : ∀ j, j ≤ 6 → (((List.range n).flatMap fun s => combs (s + 1) ((List.range n).map (65 + ·)))).length ≤ 63 := fun _ _ => by
        have : (List.range 7).all (fun n => decide (((List.range n).flatMap fun s => combs (s + 1) ((List.range n).map (65 + ·))).length ≤ 63)) = true := by decide +kernel
        exact of_decide_eq_true (List.all_eq_true.mp this n (List.mem_range.mpr (by omega)))
      simp only [gStr2, gSeqH, tDc_c, tDGet, sDPut, rCat, tBreak, rExtend, tSeq, tAsg, tRet, tRetN, tDrop, tIfS, tNext, tNever, tOp, tUn, tVar, tC, rI0, rI, rU, tTest, tIf, tB, tAnd, tOr, tNot, tAndV, tOrV, tNotV, gName, gSub, gTupH, gCons, gNil, tYes, tCons, tNil, tLst, tTup, tCB, tCall, tMeth, tMake, tFld, sFld, tFor_c, tLc_c, iRng1, iList, iTup, iStr, iSeqB, iEnumB, tM1, tSl, tPart, tNoPart, rSlS, rIxS, tBM, rAppend, tIf, rEq, rNe, scal, hIx, hIxT, hIxB, hSet, hInt, hIntB, hLen, hLenT, hLenB, L2.start, wipe, List.map_cons, List.map_nil, List.set_cons_zero, List.set_cons_succ, List.set_nil, List.length_cons, List.length_nil, List.length_map, List.cons_append, List.nil_append, List.append_nil, List.replicate, List.getElem?_cons_zero, List.getElem?_cons_succ, Option.some.injEq, V.int.injEq, V.bl.injEq, V.ref.injEq, V.str.injEq, List.cons.injEq, exists_eq_left', exists_eq_left, exists_and_left, and_assoc, upd_same, upd_upd, HO.lst.injEq, HO.tup.injEq, atI_0, atI_1, atI_2, atI_3, set_1, set_2, set_3, CDiv, CPow, CMul, List.length_set, Int.reduceToNat, Int.reduceLE, Int.reduceLT, Int.reducePow, Int.reduceNeg, Nat.reduceAdd, Nat.reduceLT, Nat.reduceLeDiff, Nat.reducePow, Nat.zero_add, or_true, true_or, gt_iff_lt, ge_iff_le, and_true, true_and, decide_eq_true_eq, if_true, Bool.false_eq_true, if_false]
      unfold iComb
      simp only [gStr2, gSeqH, tDc_c, tDGet, sDPut, rCat, tBreak, rExtend, tSeq, tAsg, tRet, tRetN, tDrop, tIfS, tNext, tNever, tOp, tUn, tVar, tC, rI0, rI, rU, tTest, tIf, tB, tAnd, tOr, tNot, tAndV, tOrV, tNotV, gName, gSub, gTupH, gCons, gNil, tYes, tCons, tNil, tLst, tTup, tCB, tCall, tMeth, tMake, tFld, sFld, tFor_c, tLc_c, iRng1, iList, iTup, iStr, iSeqB, iEnumB, tM1, tSl, tPart, tNoPart, rSlS, rIxS, tBM, rAppend, tIf, rEq, rNe, scal, hIx, hIxT, hIxB, hSet, hInt, hIntB, hLen, hLenT, hLenB, L2.start, wipe, List.map_cons, List.map_nil, List.set_cons_zero, List.set_cons_succ, List.set_nil, List.length_cons, List.length_nil, List.length_map, List.cons_append, List.nil_append, List.append_nil, List.replicate, List.getElem?_cons_zero, List.getElem?_cons_succ, Option.some.injEq, V.int.injEq, V.bl.injEq, V.ref.injEq, V.str.injEq, List.cons.injEq, exists_eq_left', exists_eq_left, exists_and_left, and_assoc, upd_same, upd_upd, HO.lst.injEq, HO.tup.injEq, atI_0, atI_1, atI_2, atI_3, set_1, set_2, set_3, CDiv, CPow, CMul, List.length_set, Int.reduceToNat, Int.reduceLE, Int.reduceLT, Int.reducePow, Int.reduceNeg, Nat.reduceAdd, Nat.reduceLT, Nat.reduceLeDiff, Nat.reducePow, Nat.zero_add, or_true, true_or, gt_iff_lt, ge_iff_le, and_true, true_and, decide_eq_true_eq, if_true, Bool.false_eq_true, if_false]
      refine ⟨AN.take n, rfl, i + 1, by omega, by omega, by omega, ?_⟩
      have hfm : (List.range (i + 1)).flatMap (fun s => combs (s + 1) ((List.range n).map (65 + ·))) = (List.range i).flatMap (fun s => combs (s + 1) ((List.range n).map (65 + ·))) ++ (cmbs n (i + 1)).map (fun ks => ks.map fun k => (AN.take n).getD k 0) := by
        rw [List.range_succ, List.flatMap_append, cs]
        simp
      have hlen : ((List.range i).flatMap fun s => combs (s + 1) ((List.range n).map (65 + ·))).length + (cmbs n (i + 1)).length ≤ 63 := by
        have z : (List.range 7).all (fun n => (List.range n).all fun i => decide (((List.range i).flatMap fun s => combs (s + 1) ((List.range n).map (65 + ·))).length + (cmbs n (i + 1)).length ≤ 63)) = true := by decide +kernel
        exact of_decide_eq_true (List.all_eq_true.mp (List.all_eq_true.mp z n (List.mem_range.mpr (by omega))) i (List.mem_range.mpr hi))
      obtain ⟨c0, c1, c2⟩ := cmbs_f (n := n) (r := i + 1) (by omega) (by omega)
      refine forComb (fun j σ H' => (∃ (v2 v3 : Option V), σ = [some (.str (tx (AN.take n))), some (.ref p), v2, v3]) ∧ H' p = some (.lst (((List.range i).flatMap (fun s => combs (s + 1) ((List.range n).map (65 + ·))) ++ ((cmbs n (i + 1)).take j).map (fun ks => ks.map fun k => (AN.take n).getD k 0)).map fun s => V.str (tx s))) ∧ Same H H') ⟨⟨_, _, rfl⟩, by rw [List.take_zero, List.map_nil, List.append_nil]; exact ep, s1⟩ ?_ ?_
      · rw [lAN]
        rintro j t σ H2 hj ⟨⟨v2, v3, rfl⟩, ep2, s2⟩ ht
        have tp : p ≠ t := ne_of_none ep2 ht
        have hcj : (cmbs n (i + 1))[j]? = some ((cmbs n (i + 1)).getD j []) := by
          rw [List.getD_eq_getElem?_getD, List.getElem?_eq_getElem hj]
          rfl
        obtain ⟨m1, m2⟩ := c2 _ (cmbs_at hj)
        generalize (cmbs n (i + 1)).getD j [] = ks at hcj m1 m2
        have epk : pick (AN.take n) ks = ((ks.map fun k => (AN.take n).getD k 0).map fun c => tx [c]).map V.str := by
          rw [pick, List.map_map, List.map_map]
          rfl
        rw [epk]
        have s3 := same_new (o := .tup (((ks.map fun k => (AN.take n).getD k 0).map fun c => tx [c]).map V.str)) ht
        have ej : Txt.join (Str.ofString "") = fun ys => Str.join Str.empty ys := funext fun ys => TL.join_eq _ ys
        have e0 : (Str.ofString "").length = 0 := by decide +kernel
        simp only [gStr2, gSeqH, tDc_c, tDGet, sDPut, rCat, tBreak, rExtend, tSeq, tAsg, tRet, tRetN, tDrop, tIfS, tNext, tNever, tOp, tUn, tVar, tC, rI0, rI, rU, tTest, tIf, tB, tAnd, tOr, tNot, tAndV, tOrV, tNotV, gName, gSub, gTupH, gCons, gNil, tYes, tCons, tNil, tLst, tTup, tCB, tCall, tMeth, tMake, tFld, sFld, tFor_c, tLc_c, iRng1, iList, iTup, iStr, iSeqB, iEnumB, tM1, tSl, tPart, tNoPart, rSlS, rIxS, tBM, rAppend, tIf, rEq, rNe, scal, hIx, hIxT, hIxB, hSet, hInt, hIntB, hLen, hLenT, hLenB, L2.start, wipe, List.map_cons, List.map_nil, List.set_cons_zero, List.set_cons_succ, List.set_nil, List.length_cons, List.length_nil, List.length_map, List.cons_append, List.nil_append, List.append_nil, List.replicate, List.getElem?_cons_zero, List.getElem?_cons_succ, Option.some.injEq, V.int.injEq, V.bl.injEq, V.ref.injEq, V.str.injEq, List.cons.injEq, exists_eq_left', exists_eq_left, exists_and_left, and_assoc, upd_same, upd_upd, HO.lst.injEq, HO.tup.injEq, atI_0, atI_1, atI_2, atI_3, set_1, set_2, set_3, CDiv, CPow, CMul, List.length_set, Int.reduceToNat, Int.reduceLE, Int.reduceLT, Int.reducePow, Int.reduceNeg, Nat.reduceAdd, Nat.reduceLT, Nat.reduceLeDiff, Nat.reducePow, Nat.zero_add, or_true, true_or, gt_iff_lt, ge_iff_le, and_true, true_and, decide_eq_true_eq, if_true, Bool.false_eq_true, if_false]
        rw [ej]
        have ep3 := s3 _ _ ep2
        refine ⟨.inl ⟨rfl, _, SqL.of ep3⟩, ⟨_, rfl⟩, _, .inr (SqT.of upd_same), ?_, _, ep3, ?_, ⟨_, rfl⟩, ?_, same_out (Same.tr s2 s3) hp⟩
        · rw [sum_one, e0, Nat.mul_zero, List.length_map, m1]
          omega
        · rw [List.length_map, List.length_append, List.length_map, List.length_take]
          exact small1000 (by omega)
        · rw [take_s hcj, List.map_append, List.map_append, List.map_append, List.map_append, ← List.append_assoc]
          show _ ++ [V.str (Str.join Str.empty _)] = _
          rw [join_tx]
          rfl
      · rw [lAN]
        rintro σ H2 ⟨⟨v2, v3, rfl⟩, ep2, s2⟩
        rw [List.take_of_length_le (Nat.le_refl _), ← hfm] at ep2
        exact ⟨⟨_, _, rfl⟩, ep2, s2⟩
    · rintro σ H' ⟨⟨v2, v3, rfl⟩, ep, s1⟩
      simp only [gStr2, gSeqH, tDc_c, tDGet, sDPut, rCat, tBreak, rExtend, tSeq, tAsg, tRet, tRetN, tDrop, tIfS, tNext, tNever, tOp, tUn, tVar, tC, rI0, rI, rU, tTest, tIf, tB, tAnd, tOr, tNot, tAndV, tOrV, tNotV, gName, gSub, gTupH, gCons, gNil, tYes, tCons, tNil, tLst, tTup, tCB, tCall, tMeth, tMake, tFld, sFld, tFor_c, tLc_c, iRng1, iList, iTup, iStr, iSeqB, iEnumB, tM1, tSl, tPart, tNoPart, rSlS, rIxS, tBM, rAppend, tIf, rEq, rNe, scal, hIx, hIxT, hIxB, hSet, hInt, hIntB, hLen, hLenT, hLenB, L2.start, wipe, List.map_cons, List.map_nil, List.set_cons_zero, List.set_cons_succ, List.set_nil, List.length_cons, List.length_nil, List.length_map, List.cons_append, List.nil_append, List.append_nil, List.replicate, List.getElem?_cons_zero, List.getElem?_cons_succ, Option.some.injEq, V.int.injEq, V.bl.injEq, V.ref.injEq, V.str.injEq, List.cons.injEq, exists_eq_left', exists_eq_left, exists_and_left, and_assoc, upd_same, upd_upd, HO.lst.injEq, HO.tup.injEq, atI_0, atI_1, atI_2, atI_3, set_1, set_2, set_3, CDiv, CPow, CMul, List.length_set, Int.reduceToNat, Int.reduceLE, Int.reduceLT, Int.reducePow, Int.reduceNeg, Nat.reduceAdd, Nat.reduceLT, Nat.reduceLeDiff, Nat.reducePow, Nat.zero_add, or_true, true_or, gt_iff_lt, ge_iff_le, and_true, true_and, decide_eq_true_eq, if_true, Bool.false_eq_true, if_false]
      exact q p H' s1 hp ep
def spEnt : Sp := fun vs H Q _ => ∃ (l : Nat × Nat) (s : List Nat), vs = [.str (lkt l), .str (tx s)] ∧ Q (.bl (!decide (65 + l.1 ∈ s) && decide (65 + l.2 ∈ s))) H
theorem ok_enters (T : Txt K mg a) : FnOk P w K mg base CX0 1 a.a_enters a.d_enters ["link", "nodes"] spEnt := by
  refine T.F_enters.ok sc_enters (fun vs H Q E h => ?_) (fun cdv A outer s H vs Q E hr h => ?_)
  · obtain ⟨_, _, rfl, _⟩ := h
    rfl
  · obtain ⟨l, s0, rfl, q⟩ := h
    refine ⟨_, (pss_one (ps_ret (pe_and (pe_cmpR op_notIn_sign (pe_ix ix_str (pv 0) pe_int (fun _ _ => rfl)) (pv 1) rfl) (pe_one (pe_cmpR op_in_sign (pe_ix ix_str (pv 0) pe_int (fun _ _ => rfl)) (pv 1) rfl))))), ?_⟩
    simp only [gStr2, gSeqH, tDc_c, tDGet, sDPut, rCat, tBreak, rExtend, tSeq, tAsg, tRet, tRetN, tDrop, tIfS, tNext, tNever, tOp, tUn, tVar, tC, rI0, rI, rU, tTest, tIf, tB, tAnd, tOr, tNot, tAndV, tOrV, tNotV, gName, gSub, gTupH, gCons, gNil, tYes, tCons, tNil, tLst, tTup, tCB, tCall, tMeth, tMake, tFld, sFld, tFor_c, tLc_c, iRng1, iList, iTup, iStr, iSeqB, iEnumB, tM1, tSl, tPart, tNoPart, rSlS, rIxS, tBM, rAppend, tIf, rEq, rNe, scal, hIx, hIxT, hIxB, hSet, hInt, hIntB, hLen, hLenT, hLenB, L2.start, wipe, List.map_cons, List.map_nil, List.set_cons_zero, List.set_cons_succ, List.set_nil, List.length_cons, List.length_nil, List.length_map, List.cons_append, List.nil_append, List.append_nil, List.replicate, List.getElem?_cons_zero, List.getElem?_cons_succ, Option.some.injEq, V.int.injEq, V.bl.injEq, V.ref.injEq, V.str.injEq, List.cons.injEq, exists_eq_left', exists_eq_left, exists_and_left, and_assoc, upd_same, upd_upd, HO.lst.injEq, HO.tup.injEq, atI_0, atI_1, atI_2, atI_3, set_1, set_2, set_3, CDiv, CPow, CMul, List.length_set, Int.reduceToNat, Int.reduceLE, Int.reduceLT, Int.reducePow, Int.reduceNeg, Nat.reduceAdd, Nat.reduceLT, Nat.reduceLeDiff, Nat.reducePow, Nat.zero_add, or_true, true_or, gt_iff_lt, ge_iff_le, and_true, true_and, decide_eq_true_eq, if_true, Bool.false_eq_true, if_false]
    have hz : (lkt l).length ≤ sizeLine := sizeLe (by show 2 ≤ 1000; omega)
    refine ⟨hz, 65 + l.1, atI_0, 65 + l.1, rfl, ite2 (fun c => ⟨hz, 65 + l.2, atI_1, 65 + l.2, rfl, ?_⟩) fun c => ?_⟩
    · have c' : ¬ 65 + l.1 ∈ s0 := fun z => by
        rw [show decide (65 + l.1 ∈ (tx s0).cps.toList) = true from decide_eq_true z] at c
        cases c
      rw [decide_eq_false c'] at q
      exact q
    · have c' : 65 + l.1 ∈ s0 := Classical.byContradiction fun z => c (by
        rw [show decide (65 + l.1 ∈ (tx s0).cps.toList) = false from decide_eq_false z]
        rfl)
      rw [decide_eq_true c'] at q
      exact q
def spEntr : Sp := fun vs H Q _ => ∃ (p : Addr) (ls : List (Nat × Nat)) (s : List Nat), vs = [.ref p, .str (tx s)] ∧ RowAt H p (lks ls) ∧ ls.length ≤ 20 ∧ ∀ D H', Same H H' → H D = none → H' D = some (.lst (ni (entL ls s))) → Q (.ref D) H'
theorem ok_entering (T : Txt K mg a) : FnOk P w K mg base CX0 2 a.a_entering a.d_entering ["links", "nodes"] spEntr := by
  have G_enters := ok_enters (P := P) (w := w) (base := base) T
  refine T.F_entering.ok sc_entering (fun vs H Q E h => ?_) (fun cdv A outer s H vs Q E hr h => ?_)
  · obtain ⟨_, _, _, rfl, _⟩ := h
    rfl
  · obtain ⟨p, ls, s0, rfl, hL, hl, q⟩ := h
    refine ⟨_, (pss_one (ps_ret (pe_lc (own := [("number", 2), ("link", 3)])   rfl sc_entering.nd (pi_enumB (by rfl) T.z_enumerate (pa_cons (pv 0) pa_nil)) (blkOk_by (own := [("number", 2), ("link", 3)]) (N := sc_entering_N) (sc := defScope s_entering) (by decide +kernel)) (fun _ _ _ _ _ => (pg_tupH (n := 2) (by rfl) (pgs_cons (pg_name (i := 2) sc_entering.nd rfl (.inl rfl)) (pgs_cons (pg_name (i := 3) sc_entering.nd rfl (.inl rfl)) pgs_nil)))) (fun _ _ _ _ _ => (pts_one (pt_val (pe_call G_enters (hr.mono (by first | decide | exact Nat.le_refl _ | omega)) (by rfl) T.g_enters T.F_enters.kp T.b_enters .nil pass0 (pa_cons (pv 3) (pa_cons (pv 1) pa_nil)))))) (fun _ _ _ _ _ => (pv 2))))), ?_⟩
    simp only [gStr2, gSeqH, tDc_c, tDGet, sDPut, rCat, tBreak, rExtend, tSeq, tAsg, tRet, tRetN, tDrop, tIfS, tNext, tNever, tOp, tUn, tVar, tC, rI0, rI, rU, tTest, tIf, tB, tAnd, tOr, tNot, tAndV, tOrV, tNotV, gName, gSub, gTupH, gCons, gNil, tYes, tCons, tNil, tLst, tTup, tCB, tCall, tMeth, tMake, tFld, sFld, tFor_c, tLc_c, iRng1, iList, iTup, iStr, iSeqB, iEnumB, tM1, tSl, tPart, tNoPart, rSlS, rIxS, tBM, rAppend, tIf, rEq, rNe, scal, hIx, hIxT, hIxB, hSet, hInt, hIntB, hLen, hLenT, hLenB, L2.start, wipe, List.map_cons, List.map_nil, List.set_cons_zero, List.set_cons_succ, List.set_nil, List.length_cons, List.length_nil, List.length_map, List.cons_append, List.nil_append, List.append_nil, List.replicate, List.getElem?_cons_zero, List.getElem?_cons_succ, Option.some.injEq, V.int.injEq, V.bl.injEq, V.ref.injEq, V.str.injEq, List.cons.injEq, exists_eq_left', exists_eq_left, exists_and_left, and_assoc, upd_same, upd_upd, HO.lst.injEq, HO.tup.injEq, atI_0, atI_1, atI_2, atI_3, set_1, set_2, set_3, CDiv, CPow, CMul, List.length_set, Int.reduceToNat, Int.reduceLE, Int.reduceLT, Int.reducePow, Int.reduceNeg, Nat.reduceAdd, Nat.reduceLT, Nat.reduceLeDiff, Nat.reducePow, Nat.zero_add, or_true, true_or, gt_iff_lt, ge_iff_le, and_true, true_and, decide_eq_true_eq, if_true, Bool.false_eq_true, if_false]
    have entS : ∀ {i : Nat} {x : V}, (lks ls)[i]? = some x → entL ls s0 = entL ls s0 ∧ i < ls.length ∧ ∃ l, ls[i]? = some l ∧ x = .str (lkt l) := fun {i x} h => by
      obtain ⟨l, hl, rfl⟩ := map_at h
      exact ⟨rfl, (List.getElem?_eq_some_iff.mp hl).1, l, hl, rfl⟩
    have step : ∀ {i : Nat} {l : Nat × Nat}, ls[i]? = some l → ((List.range (i + 1)).filter fun k => !decide (65 + (ls.getD k (0, 0)).1 ∈ s0) && decide (65 + (ls.getD k (0, 0)).2 ∈ s0)) = ((List.range i).filter fun k => !decide (65 + (ls.getD k (0, 0)).1 ∈ s0) && decide (65 + (ls.getD k (0, 0)).2 ∈ s0)) ++ if (!decide (65 + l.1 ∈ s0) && decide (65 + l.2 ∈ s0)) = true then [i] else [] := fun {i l} h => by
      rw [List.range_succ, List.filter_append]
      congr 1
      rw [List.filter_cons, List.getD_eq_getElem?_getD, h, Option.getD_some]
      cases (!decide (65 + l.1 ∈ s0) && decide (65 + l.2 ∈ s0)) <;> rfl
    have item : ∀ {i : Nat} {x : V} {t D : Addr} {H' : Hp}, H D = none → (lks ls)[i]? = some x → (H' D = some (.lst (ni ((List.range i).filter fun k => !decide (65 + (ls.getD k (0, 0)).1 ∈ s0) && decide (65 + (ls.getD k (0, 0)).2 ∈ s0)))) ∧ Same H H') → H' t = none →
        gTupH 2 (gCons (gName 2) (gCons (gName 3) gNil)) (.ref t) (wipe [some (V.ref p), some (V.str (tx s0)), none, none] [2, 3]) (upd H' t (.tup [.int (i : Nat), x])) fun σ2 H2 => wipe σ2 [2, 3] = wipe [some (V.ref p), some (V.str (tx s0)), none, none] [2, 3] ∧ (tB (tCall spEnt [] E0 (tCons (tVar 3) (tCons (tVar 1) tNil)))) σ2 H2 fun b H3 => if b = true then (tVar 2) σ2 H3 fun y H4 => ∃ acc, H4 D = some (.lst acc) ∧ acc.length < sizeLine ∧ (upd H4 D (.lst (acc ++ [y])) D = some (.lst (ni ((List.range (i + 1)).filter fun k => !decide (65 + (ls.getD k (0, 0)).1 ∈ s0) && decide (65 + (ls.getD k (0, 0)).2 ∈ s0)))) ∧ Same H (upd H4 D (.lst (acc ++ [y])))) else (H3 D = some (.lst (ni ((List.range (i + 1)).filter fun k => !decide (65 + (ls.getD k (0, 0)).1 ∈ s0) && decide (65 + (ls.getD k (0, 0)).2 ∈ s0)))) ∧ Same H H3) := by
      rintro i x t D H' hD hx ⟨eD, s1⟩ ht
      obtain ⟨_, hi, l, hl0, rfl⟩ := entS hx
      have s2 := same_new (o := .tup [.int (i : Nat), .str (lkt l)]) ht
      simp only [gStr2, gSeqH, tDc_c, tDGet, sDPut, rCat, tBreak, rExtend, tSeq, tAsg, tRet, tRetN, tDrop, tIfS, tNext, tNever, tOp, tUn, tVar, tC, rI0, rI, rU, tTest, tIf, tB, tAnd, tOr, tNot, tAndV, tOrV, tNotV, gName, gSub, gTupH, gCons, gNil, tYes, tCons, tNil, tLst, tTup, tCB, tCall, tMeth, tMake, tFld, sFld, tFor_c, tLc_c, iRng1, iList, iTup, iStr, iSeqB, iEnumB, tM1, tSl, tPart, tNoPart, rSlS, rIxS, tBM, rAppend, tIf, rEq, rNe, scal, hIx, hIxT, hIxB, hSet, hInt, hIntB, hLen, hLenT, hLenB, L2.start, wipe, List.map_cons, List.map_nil, List.set_cons_zero, List.set_cons_succ, List.set_nil, List.length_cons, List.length_nil, List.length_map, List.cons_append, List.nil_append, List.append_nil, List.replicate, List.getElem?_cons_zero, List.getElem?_cons_succ, Option.some.injEq, V.int.injEq, V.bl.injEq, V.ref.injEq, V.str.injEq, List.cons.injEq, exists_eq_left', exists_eq_left, exists_and_left, and_assoc, upd_same, upd_upd, HO.lst.injEq, HO.tup.injEq, atI_0, atI_1, atI_2, atI_3, set_1, set_2, set_3, CDiv, CPow, CMul, List.length_set, Int.reduceToNat, Int.reduceLE, Int.reduceLT, Int.reducePow, Int.reduceNeg, Nat.reduceAdd, Nat.reduceLT, Nat.reduceLeDiff, Nat.reducePow, Nat.zero_add, or_true, true_or, gt_iff_lt, ge_iff_le, and_true, true_and, decide_eq_true_eq, if_true, Bool.false_eq_true, if_false]
      have lnow : ((List.range i).filter fun k => !decide (65 + (ls.getD k (0, 0)).1 ∈ s0) && decide (65 + (ls.getD k (0, 0)).2 ∈ s0)).length ≤ 20 := by
        refine Nat.le_trans (List.length_filter_le _ _) ?_
        rw [List.length_range]
        omega
      have st := step hl0
      refine ⟨l, s0, rfl, _, rfl, ite2 (fun c => ?_) fun c => ?_⟩
      · rw [if_pos c] at st
        exact ⟨_, s2 _ _ eD, by rw [ni_len]; exact small1000 (by omega), by rw [st, ni_snoc], same_out (Same.tr s1 s2) hD⟩
      · rw [if_neg c, List.append_nil] at st
        rw [st]
        exact ⟨s2 _ _ eD, Same.tr s1 s2⟩
    rcases hL with e | e
    · refine .inl ⟨_, SqL.of e, ?_⟩
      refine lcEnumL (xs := lks ls) (fun i D H' => H' D = some (.lst (ni ((List.range i).filter fun k => !decide (65 + (ls.getD k (0, 0)).1 ∈ s0) && decide (65 + (ls.getD k (0, 0)).2 ∈ s0)))) ∧ Same H H') (fun D hD => ⟨upd_same, same_new hD⟩) (fun i D H' _ _ z => SqL.of (z.2 _ _ e)) (fun i x t D H' hD hx z ht => item hD hx z ht) ?_
      rintro D H' hD ⟨eD, s1⟩
      rw [List.length_map] at eD
      exact q D H' s1 hD eD
    · refine .inr ⟨_, SqT.of e, ?_⟩
      refine lcEnumT (xs := lks ls) (fun i D H' => H' D = some (.lst (ni ((List.range i).filter fun k => !decide (65 + (ls.getD k (0, 0)).1 ∈ s0) && decide (65 + (ls.getD k (0, 0)).2 ∈ s0)))) ∧ Same H H') (fun D hD => ⟨upd_same, same_new hD⟩) (fun i D H' _ _ z => SqT.of (z.2 _ _ e)) (fun i x t D H' hD hx z ht => item hD hx z ht) ?_
      rintro D H' hD ⟨eD, s1⟩
      rw [List.length_map] at eD
      exact q D H' s1 hD eD
end
end AK
set_option Elab.async false
set_option linter.all false
set_option maxRecDepth 100000
set_option maxHeartbeats 4000000
namespace AK
open PySem PySem.Spec PyProof.Rows L2
section
variable {P : Program} {w : World} {K : PySem.W.Frag} {mg : Str → Option Value} {base : Heap} {a : Ads}
def spFirstS (C : Addr) : Sp := fun vs H Q _ => ∃ (p : Addr) (n : Nat) (rows : List (List Nat)) (ls : List (Nat × Nat)), vs = [.ref p] ∧ NetN C H p n rows ls ∧ OkR n rows ls ∧ ∀ D H', Same H H' → H D = none → HadAt H' D (rows.map fun r => spn r []) → Q (.ref D) H'
theorem ok_first_spans (T : Txt K mg a) : FnOk P w K mg base CX0 6 a.a_first_spans a.d_first_spans ["network"] (spFirstS a.c_Network) := by
  have G_first_masks := ok_first_masks (P := P) (w := w) (base := base) T
  have G_spanned := ok_spanned (P := P) (w := w) (base := base) T
  refine T.F_first_spans.ok sc_first_spans (fun vs H Q E h => ?_) (fun cdv A outer s H vs Q E hr h => ?_)
  · obtain ⟨_, _, _, _, rfl, _⟩ := h
    rfl
  · obtain ⟨p, n, rows, ls, rfl, hN, ok, q⟩ := h
    refine ⟨_, (pss_one (ps_ret (pe_dc (by rfl) (own := [("node", 1), ("masks", 2)])  (tt := tYes) sc_first_spans.nd (pi_items (pe_frz (pe_call G_first_masks (hr.mono (by first | decide | exact Nat.le_refl _ | omega)) (by rfl) T.g_first_masks T.F_first_masks.kp T.b_first_masks .nil pass0 (pa_cons (pv 0) pa_nil)))) (blkOk_by (own := [("node", 1), ("masks", 2)]) (N := sc_first_spans_N) (sc := defScope s_first_spans) (by decide +kernel)) (fun _ _ _ _ _ => (pg_tupH (n := 2) (by rfl) (pgs_cons (pg_name (i := 1) sc_first_spans.nd rfl (.inl rfl)) (pgs_cons (pg_name (i := 2) sc_first_spans.nd rfl (.inl rfl)) pgs_nil)))) (fun _ _ _ _ _ => pts_nil) (fun _ _ _ _ _ => by exact (pv 1)) (fun _ _ _ _ _ => by exact (pe_call G_spanned (hr.mono (by first | decide | exact Nat.le_refl _ | omega)) (by rfl) T.g_spanned T.k_spanned T.b1_spanned.choose_spec.2 T.b1_spanned.choose_spec.1 pass0 (pa_cons (pv 2) pa_nil)))))), ?_⟩
    simp only [gStr2, gSeqH, tDc_c, tDGet, sDPut, rCat, tBreak, rExtend, tSeq, tAsg, tRet, tRetN, tDrop, tIfS, tNext, tNever, tOp, tUn, tVar, tC, rI0, rI, rU, tTest, tIf, tB, tAnd, tOr, tNot, tAndV, tOrV, tNotV, gName, gSub, gTupH, gCons, gNil, tYes, tCons, tNil, tLst, tTup, tCB, tCall, tMeth, tMake, tFld, sFld, tFor_c, tLc_c, iRng1, iList, iTup, iStr, iSeqB, iEnumB, tM1, tSl, tPart, tNoPart, rSlS, rIxS, tBM, rAppend, tIf, rEq, rNe, scal, hIx, hIxT, hIxB, hSet, hInt, hIntB, hLen, hLenT, hLenB, L2.start, wipe, List.map_cons, List.map_nil, List.set_cons_zero, List.set_cons_succ, List.set_nil, List.length_cons, List.length_nil, List.length_map, List.cons_append, List.nil_append, List.append_nil, List.replicate, List.getElem?_cons_zero, List.getElem?_cons_succ, Option.some.injEq, V.int.injEq, V.bl.injEq, V.ref.injEq, V.str.injEq, List.cons.injEq, exists_eq_left', exists_eq_left, exists_and_left, and_assoc, upd_same, upd_upd, HO.lst.injEq, HO.tup.injEq, atI_0, atI_1, atI_2, atI_3, set_1, set_2, set_3, CDiv, CPow, CMul, List.length_set, Int.reduceToNat, Int.reduceLE, Int.reduceLT, Int.reducePow, Int.reduceNeg, Nat.reduceAdd, Nat.reduceLT, Nat.reduceLeDiff, Nat.reducePow, Nat.zero_add, or_true, true_or, gt_iff_lt, ge_iff_le, and_true, true_and, decide_eq_true_eq, if_true, Bool.false_eq_true, if_false]
    unfold iItems tFrz
    simp only [gStr2, gSeqH, tDc_c, tDGet, sDPut, rCat, tBreak, rExtend, tSeq, tAsg, tRet, tRetN, tDrop, tIfS, tNext, tNever, tOp, tUn, tVar, tC, rI0, rI, rU, tTest, tIf, tB, tAnd, tOr, tNot, tAndV, tOrV, tNotV, gName, gSub, gTupH, gCons, gNil, tYes, tCons, tNil, tLst, tTup, tCB, tCall, tMeth, tMake, tFld, sFld, tFor_c, tLc_c, iRng1, iList, iTup, iStr, iSeqB, iEnumB, tM1, tSl, tPart, tNoPart, rSlS, rIxS, tBM, rAppend, tIf, rEq, rNe, scal, hIx, hIxT, hIxB, hSet, hInt, hIntB, hLen, hLenT, hLenB, L2.start, wipe, List.map_cons, List.map_nil, List.set_cons_zero, List.set_cons_succ, List.set_nil, List.length_cons, List.length_nil, List.length_map, List.cons_append, List.nil_append, List.append_nil, List.replicate, List.getElem?_cons_zero, List.getElem?_cons_succ, Option.some.injEq, V.int.injEq, V.bl.injEq, V.ref.injEq, V.str.injEq, List.cons.injEq, exists_eq_left', exists_eq_left, exists_and_left, and_assoc, upd_same, upd_upd, HO.lst.injEq, HO.tup.injEq, atI_0, atI_1, atI_2, atI_3, set_1, set_2, set_3, CDiv, CPow, CMul, List.length_set, Int.reduceToNat, Int.reduceLE, Int.reduceLT, Int.reducePow, Int.reduceNeg, Nat.reduceAdd, Nat.reduceLT, Nat.reduceLeDiff, Nat.reducePow, Nat.zero_add, or_true, true_or, gt_iff_lt, ge_iff_le, and_true, true_and, decide_eq_true_eq, if_true, Bool.false_eq_true, if_false]
    refine ⟨p, n, rows, ls, rfl, hN, ok, fun D0 H1 s1 nD0 A0 => ?_⟩
    obtain ⟨as, h1, h2, h3, h4⟩ := A0.ex
    refine ⟨D0, rfl, _, h1, trivial, fun o => ⟨D0, rfl, o, _, upd_same, ?_⟩⟩
    have r6 := ok.r2
    have fz : upd H1 D0 (.frz o (.dK (hadF 0 (as.map V.ref)))) D0 = some (.frz o (.dK (hadF 0 (as.map V.ref)))) := upd_same
    have l9 : ∀ r ∈ rows, r.length ≤ 4 := fun r hr => (ok.m r hr).1
    generalize hG : upd H1 D0 (.frz o (.dK (hadF 0 (as.map V.ref)))) = G at fz
    have Gl : ∀ {b xs}, H1 b = some (.lst xs) → G b = some (.lst xs) := fun {b xs} e => by
      rw [← hG, upd_ne (fun z => by rw [z, h1] at e; cases e)]
      exact e
    have sG : Same H G := fun b o' e => by
      rw [← hG, upd_ne (ne_of_none e nD0)]
      exact s1 _ _ e
    refine dcItems (fun i D' H' => (∃ as2 : List Addr, H' D' = some (.dK (hadF 0 (as2.map V.ref))) ∧ as2.length = i ∧ as2.Nodup ∧ (∀ t ∈ as2, G t = none ∧ t ≠ D') ∧ ∀ (k : Nat) (r : List Nat) (t : Addr), rows[k]? = some r → as2[k]? = some t → H' t = some (.lst (ni (spn r [])))) ∧ Same G H') ?_ (fun i D' H' _ z => z.2 _ _ fz) ?_ ?_
    · intro D' hD
      exact ⟨⟨[], upd_same, rfl, List.nodup_nil, fun t ht => absurd ht List.not_mem_nil, fun k r t _ e => by rw [List.getElem?_nil] at e; cases e⟩, same_new hD⟩
    · rintro i k x t D' H' hD hx ⟨⟨as2, e1, e2, e3, e4, e5⟩, s1'⟩ ht
      rw [hadF_at, Nat.zero_add] at hx
      obtain ⟨v, hv, ev⟩ := Option.map_eq_some_iff.mp hx
      obtain ⟨rfl, rfl⟩ := Prod.mk.inj ev
      obtain ⟨b, hb, rfl⟩ := map_at hv
      have hi : i < rows.length := by
        rw [← h2]
        exact (List.getElem?_eq_some_iff.mp hb).1
      have hri : rows[i]? = some rows[i] := List.getElem?_eq_getElem hi
      have eb := s1' _ _ (Gl (h4 i _ b hri hb))
      have l9i := l9 _ (List.getElem_mem hi)
      have s2 := same_new (o := .tup [kV (.inr (tx [65 + i])), V.ref b]) ht
      have tD : t ≠ D' := fun z => by
        rw [z, e1] at ht
        cases ht
      refine ⟨t, _, rfl, upd_same, rfl, ?_⟩
      simp only [gStr2, gSeqH, tDc_c, tDGet, sDPut, rCat, tBreak, rExtend, tSeq, tAsg, tRet, tRetN, tDrop, tIfS, tNext, tNever, tOp, tUn, tVar, tC, rI0, rI, rU, tTest, tIf, tB, tAnd, tOr, tNot, tAndV, tOrV, tNotV, gName, gSub, gTupH, gCons, gNil, tYes, tCons, tNil, tLst, tTup, tCB, tCall, tMeth, tMake, tFld, sFld, tFor_c, tLc_c, iRng1, iList, iTup, iStr, iSeqB, iEnumB, tM1, tSl, tPart, tNoPart, rSlS, rIxS, tBM, rAppend, tIf, rEq, rNe, scal, hIx, hIxT, hIxB, hSet, hInt, hIntB, hLen, hLenT, hLenB, L2.start, wipe, List.map_cons, List.map_nil, List.set_cons_zero, List.set_cons_succ, List.set_nil, List.length_cons, List.length_nil, List.length_map, List.cons_append, List.nil_append, List.append_nil, List.replicate, List.getElem?_cons_zero, List.getElem?_cons_succ, Option.some.injEq, V.int.injEq, V.bl.injEq, V.ref.injEq, V.str.injEq, List.cons.injEq, exists_eq_left', exists_eq_left, exists_and_left, and_assoc, upd_same, upd_upd, HO.lst.injEq, HO.tup.injEq, atI_0, atI_1, atI_2, atI_3, set_1, set_2, set_3, CDiv, CPow, CMul, List.length_set, Int.reduceToNat, Int.reduceLE, Int.reduceLT, Int.reducePow, Int.reduceNeg, Nat.reduceAdd, Nat.reduceLT, Nat.reduceLeDiff, Nat.reducePow, Nat.zero_add, or_true, true_or, gt_iff_lt, ge_iff_le, and_true, true_and, decide_eq_true_eq, if_true, Bool.false_eq_true, if_false]
      refine ⟨b, _, rows[i], [], rfl, SqL.of (s2 _ _ eb), .inr (T.e_spanned _), by simp only [List.length_nil]; omega, fun u Hu s3 hu eu => ?_⟩
      have uD : u ≠ D' := fun z => by
        rw [z, upd_ne tD.symm, e1] at hu
        cases hu
      have uG : G u = none := by
        cases e : G u with
        | none => rfl
        | some o' =>
          have z := s2 _ _ (s1' _ _ e)
          rw [hu] at z
          cases z
      have u2 : u ∉ as2 := fun hm => by
        obtain ⟨j, hj, ej⟩ := List.mem_iff_getElem.mp hm
        have hj' : j < rows.length := by omega
        have z := e5 j _ u (List.getElem?_eq_getElem hj') (by rw [List.getElem?_eq_getElem hj, ej])
        have y := s2 _ _ z
        rw [hu] at y
        cases y
      refine ⟨_, .inr (tx [65 + i]), rfl, s3 _ _ (s2 _ _ e1), ?_, ⟨as2 ++ [u], ?_, ?_, ?_, ?_, ?_⟩, same_out (Same.tr s1' (Same.tr s2 s3)) hD⟩
      · rw [hadF_len, List.length_map, e2]
        exact small1000 (by omega)
      · have z := hadF_put (as2.map V.ref) (V.ref u)
        rw [List.length_map, e2] at z
        rw [z, List.map_append]
        rfl
      · rw [List.length_append, e2]
        rfl
      · exact List.nodup_append.mpr ⟨e3, List.nodup_cons.mpr ⟨List.not_mem_nil, List.nodup_nil⟩, fun x hx y hy e => u2 (by rw [List.mem_singleton.mp hy] at e; rw [← e]; exact hx)⟩
      · intro v hv
        rcases List.mem_append.mp hv with z | z
        · exact e4 v z
        · rw [List.mem_singleton.mp z]
          exact ⟨uG, uD⟩
      · intro k r v w1 w2
        have key : v ≠ D' ∧ Hu v = some (.lst (ni (spn r []))) := by
          by_cases hk : k < as2.length
          · rw [List.getElem?_append_left hk] at w2
            exact ⟨(e4 v (List.mem_of_getElem? w2)).2, s3 _ _ (s2 _ _ (e5 k r v w1 w2))⟩
          · rw [List.getElem?_append_right (by omega)] at w2
            have hz : k - as2.length = 0 := by
              have := (List.getElem?_eq_some_iff.mp w2).1
              simp only [List.length_cons, List.length_nil] at this
              omega
            rw [hz] at w2
            cases Option.some.inj w2
            rw [show k = i from by omega, hri] at w1
            cases Option.some.inj w1
            exact ⟨uD, eu⟩
        rw [upd_ne key.1]
        exact key.2
    · rintro D' H' hD ⟨⟨as2, e1, e2, e3, e4, e5⟩, s1'⟩
      rw [hadF_len, List.length_map, h2] at e2
      refine q D' H' (Same.tr sG s1') (sG.free hD) ⟨as2, e1, by rw [List.length_map]; exact e2, e3, fun i r t w1 w2 => ?_⟩
      obtain ⟨r0, w0, rfl⟩ := map_at w1
      exact e5 i r0 t w0 w2
end
end AK
set_option Elab.async false
set_option linter.all false
set_option maxRecDepth 100000
set_option maxHeartbeats 4000000
namespace AK
open PySem PySem.Spec PyProof.Rows L2
theorem osets_top_all : (List.range 7).all (fun n => decide (n = 0 ∨ AN.take n ∈ osets n)) = true := by decide +kernel
theorem osets_top {n : Nat} (h : n ≤ 6) (h1 : 1 ≤ n) : AN.take n ∈ osets n := by
  have z := of_decide_eq_true (List.all_eq_true.mp osets_top_all n (List.mem_range.mpr (by omega)))
  rcases z with z | z
  · omega
  · exact z
def dmd (rows : List (List Nat)) (s : List Nat) : Int := ((spanOf rows (AN.take rows.length)).length : Int) - ((spanOf rows s).length : Int)
def bey (rows : List (List Nat)) (ls : List (Nat × Nat)) (s : List Nat) : Int := ((entL ls s).length : Int) - dmd rows s
theorem forItems {g : TG} {tb : TS} {D : Ends} {σ : L2.St} {H : Hp} {d : Addr} {o : Obj} {kvs : List (L2.Key × V)} (Pv : Nat → L2.St → Hp → Prop) (h0 : Pv 0 σ H) (hk : ∀ i σ H', Pv i σ H' → H' d = some (.frz o (.dK kvs)))
    (hs : ∀ i k x t σ H', kvs[i]? = some (k, x) → Pv i σ H' → H' t = none → g (.ref t) σ (upd H' t (.tup [kV k, x])) fun σ2 H2 => tb { D with nx := Pv (i + 1), ct := Pv (i + 1), bk := D.nx } σ2 H2) (hd : ∀ σ H', Pv kvs.length σ H' → D.nx σ H') : contF g tb D σ (Iti d o kvs) H := by
  refine ⟨fun i m σ H' => m = kvs.length - i ∧ i ≤ kvs.length ∧ Pv i σ H', ⟨kvs.length, by simp, Nat.zero_le _, h0⟩, ?_⟩
  rintro i m σ H' ⟨rfl, hi, p⟩
  have hfz := hk i σ H' p
  by_cases hlt : i < kvs.length
  · refine .inr ⟨⟨hfz, hlt⟩, Pv (i + 1), fun σ' H' p' => ⟨kvs.length - (i + 1), by omega, rfl, hlt, p'⟩, fun y H2 hy => ?_⟩
    obtain ⟨t, k, x, hx, rfl, ht, rfl⟩ := hy
    exact hs i k x t σ H' hx p ht
  · have e : i = kvs.length := by omega
    subst e
    exact .inl ⟨⟨hfz, Nat.le_refl _⟩, hd σ H' p⟩
theorem cutS_last (s : List Nat) : cutS (tx s) none (some (-1)) = tx s.dropLast := by
  have hz : (tx s).length = s.length := len_tx s
  have h1 : HT.sIx (tx s).length (tx s).length (some (-1)) = s.length - 1 := by
    rw [hz]
    show (if (-1 : Int) < 0 then ((-1 : Int) + (s.length : Int)).toNat else min (-1 : Int).toNat s.length) = _
    rw [if_pos (by decide)]
    omega
  unfold cutS
  rw [h1, HT.sIx_none, List.drop_zero, Nat.sub_zero, List.dropLast_eq_take]
  rfl
theorem last_at {s : List Nat} (h : s ≠ []) : atI (tx s).cps.toList (-1) = some (s.getLast h) := by
  have e : (tx s).cps.toList = s.dropLast ++ [s.getLast h] := (List.dropLast_concat_getLast h).symm
  rw [e]
  exact L2.atI_last _ _
theorem span_small {rows : List (List Nat)} (h4 : ∀ r ∈ rows, r.length ≤ 4) (s : List Nat) : (spanOf rows s).length ≤ 4 * s.length := by
  rw [spanOf_len]
  refine Nat.le_trans (rank_len _) ?_
  induction s with
  | nil => exact Nat.le_refl _
  | cons c s ih =>
    rw [List.flatMap_cons, List.length_append, List.length_cons]
    have : (rows.getD (c - 65) []).length ≤ 4 := by
      rw [List.getD_eq_getElem?_getD]
      cases e : rows[c - 65]? with
      | none => exact Nat.zero_le _
      | some r => exact h4 r (List.mem_of_getElem? e)
    omega
theorem osets_six_all : (List.range 7).all (fun n => (osets n).all fun s => decide (s.length ≤ 6)) = true := by decide +kernel
theorem osets_six {n : Nat} (h : n ≤ 6) {s : List Nat} (hs : s ∈ osets n) : s.length ≤ 6 := of_decide_eq_true (List.all_eq_true.mp (List.all_eq_true.mp osets_six_all n (List.mem_range.mpr (by omega))) s hs)
theorem hadF_keys : ∀ (l : List V) (j : Nat), (hadF j l).map (fun kv => kV kv.1) = (((List.range l.length).map fun i => 65 + (j + i)).map fun c => tx [c]).map V.str
  | [], _ => rfl
  | v :: l, j => by
    rw [hadF, List.map_cons, hadF_keys l (j + 1), List.length_cons, List.range_succ_eq_map, List.map_cons, List.map_cons, List.map_cons, List.map_map, List.map_map, List.map_map, List.map_map, List.map_map]
    refine congr (congrArg List.cons rfl) (List.map_congr_left fun i _ => ?_)
    show V.str (tx [65 + (j + 1 + i)]) = V.str (tx [65 + (j + (i + 1))])
    rw [show j + 1 + i = j + (i + 1) from by omega]
theorem AN_range : (List.range 7).all (fun n => AN.take n == (List.range n).map fun i => 65 + (0 + i)) = true := by decide +kernel
theorem AN_rng {n : Nat} (h : n ≤ 6) : (List.range n).map (fun i => 65 + (0 + i)) = AN.take n := (eq_of_beq (List.all_eq_true.mp AN_range n (List.mem_range.mpr (by omega)))).symm
/-- a Margins object -/
structure MarAt (C : Addr) (H : Hp) (m : Addr) (rows : List (List Nat)) (ls : List (Nat × Nat)) : Prop where
  ex : ∃ (dx dS dD dB : Addr) (as : List Addr) (fs : List (Str × V)), H m = some (.ins C dx fs) ∧ look fs "spans" = some (.ref dS) ∧ look fs "demands" = some (.ref dD) ∧ look fs "beyond" = some (.ref dB) ∧
    H dS = some (.dK (kvZ (osets rows.length) (as.map V.ref))) ∧ as.length = (osets rows.length).length ∧ (∀ (i : Nat) (s : List Nat) (t : Addr), (osets rows.length)[i]? = some s → as[i]? = some t → H t = some (.lst (ni (spanOf rows s)))) ∧
    H dD = some (.dK (kvZ (osets rows.length) ((osets rows.length).map fun s => V.int (dmd rows s)))) ∧ H dB = some (.dK (kvZ (osets rows.length) ((osets rows.length).map fun s => V.int (bey rows ls s)))) ∧ ∀ f : Str, ¬ f = "letters" → ¬ f = "spans" → ¬ f = "demands" → ¬ f = "beyond" → List.lookup f fs = none
section
variable {P : Program} {w : World} {K : PySem.W.Frag} {mg : Str → Option Value} {base : Heap} {a : Ads}
def spMarI (C : Addr) : Sp := fun vs H Q _ => ∃ (p dx d l : Addr) (rows : List (List Nat)) (ls : List (Nat × Nat)), vs = [.ref p, .ref d, .ref l] ∧ H p = some (.ins C dx []) ∧ HadAt H d (rows.map fun r => spn r []) ∧ 1 ≤ rows.length ∧ rows.length ≤ 6 ∧ (∀ r ∈ rows, r.length ≤ 4) ∧ RowAt H l (lks ls) ∧ ls.length ≤ 20 ∧
  ∀ H', (∀ b o, b ≠ p → H b = some o → H' b = some o) → MarAt C H' p rows ls → Q .non H'
theorem ok_Margins (T : Txt K mg a) : FnOk P w K mg base CX0 6 a.a_Margins_init a.d_Margins_init ["self", "node_spans", "links"] (spMarI a.c_Margins) := by
  have G_ordered_sets := ok_ordered_sets (P := P) (w := w) (base := base) T
  have G_spanned := ok_spanned (P := P) (w := w) (base := base) T
  have G_entering := ok_entering (P := P) (w := w) (base := base) T
  refine T.F_Margins_init.ok sc_Margins_init (fun vs H Q E h => ?_) (fun cdv A outer s H vs Q E hr h => ?_)
  · obtain ⟨_, _, _, _, _, _, rfl, _⟩ := h
    rfl
  · obtain ⟨p, dx, d, l, rows, ls, rfl, hp, hA, h1, h6, h4, hL, hl, q⟩ := h
    refine ⟨_, (pss_cons (ps_set (i := 3) sc_Margins_init.nd rfl (.inl rfl) (pe_join pe_str (pe_callTy (call_list_dK rfl) (by rfl) T.z_list (by decide +kernel) (pa_cons (pv 1) pa_nil))))
      (pss_cons (ps_fld (pv 0) (pv 3) rfl)
      (pss_cons (ps_fld (pv 0) pe_dnewK rfl)
      (pss_cons (ps_for PassesOwn.never rfl (pi_list (pe_call G_ordered_sets (hr.mono (by first | decide | exact Nat.le_refl _ | omega)) (by rfl) T.g_ordered_sets T.F_ordered_sets.kp T.b_ordered_sets .nil pass0 (pa_cons (pv 3) pa_nil))) (pg_name (i := 4) sc_Margins_init.nd rfl (.inl rfl))
      (pss_cons (ps_set (i := 5) sc_Margins_init.nd rfl (.inl rfl) (pe_dget2 (units1 hr) (pe_fld (pv 0) rfl) (pe_slice sl_str (pv 4) po_none (po_some (pe_un un_neg pe_int))) (pe_lst pa_nil) ⟨rfl, rfl, rfl, rfl⟩))
      (pss_one (ps_dput (units1 hr) (pe_fld (pv 0) rfl) (pv 4) (pe_call G_spanned (hr.mono (by first | decide | exact Nat.le_refl _ | omega)) (by rfl) T.g_spanned T.k_spanned T.b_spanned .nil pass0 (pa_cons (pe_dget (units1 hr) (pv 1) (pe_ix ix_str (pv 4) (pe_un un_neg pe_int) (fun _ _ => rfl)) (fun _ _ => rfl)) (pa_cons (pv 5) pa_nil))) rfl))))
      (pss_cons (ps_fld (pv 0) pe_dnewK rfl)
      (pss_cons (ps_fld (pv 0) pe_dnewK rfl)
      (pss_one (ps_lock (ps_for PassesOwn.never rfl (pi_items (pe_fld (pv 0) rfl)) (pg_tupH (n := 2) (by rfl) (pgs_cons (pg_name (i := 4) sc_Margins_init.nd rfl (.inl rfl)) (pgs_cons (pg_name (i := 6) sc_Margins_init.nd rfl (.inl rfl)) pgs_nil)))
      (pss_cons (ps_dput (units1 hr) (pe_fld (pv 0) rfl) (pv 4) (pe_op op_sub (pe_callB callLen (by rfl) T.z_len PySem.boot_len (pa_cons (pe_dget (units1 hr) (pe_fld (pv 0) rfl) (pv 3) (fun _ _ => rfl)) pa_nil)) (pe_callB callLen (by rfl) T.z_len PySem.boot_len (pa_cons (pv 6) pa_nil))) rfl)
      (pss_one (ps_dput (units1 hr) (pe_fld (pv 0) rfl) (pv 4) (pe_op op_sub (pe_callB callLen (by rfl) T.z_len PySem.boot_len (pa_cons (pe_call G_entering (hr.mono (by first | decide | exact Nat.le_refl _ | omega)) (by rfl) T.g_entering T.F_entering.kp T.b_entering .nil pass0 (pa_cons (pv 2) (pa_cons (pv 4) pa_nil))) pa_nil)) (pe_dget (units1 hr) (pe_fld (pv 0) rfl) (pv 4) (fun _ _ => rfl))) rfl)))))))))))), ?_⟩
    simp only [gStr2, gSeqH, tDc_c, tDGet, sDPut, rCat, tBreak, rExtend, tSeq, tAsg, tRet, tRetN, tDrop, tIfS, tNext, tNever, tOp, tUn, tVar, tC, rI0, rI, rU, tTest, tIf, tB, tAnd, tOr, tNot, tAndV, tOrV, tNotV, gName, gSub, gTupH, gCons, gNil, tYes, tCons, tNil, tLst, tTup, tCB, tCall, tMeth, tMake, tFld, sFld, tFor_c, tLc_c, iRng1, iList, iTup, iStr, iSeqB, iEnumB, tM1, tSl, tPart, tNoPart, rSlS, rIxS, tBM, rAppend, tIf, rEq, rNe, scal, hIx, hIxT, hIxB, hSet, hInt, hIntB, hLen, hLenT, hLenB, L2.start, wipe, List.map_cons, List.map_nil, List.set_cons_zero, List.set_cons_succ, List.set_nil, List.length_cons, List.length_nil, List.length_map, List.cons_append, List.nil_append, List.append_nil, List.replicate, List.getElem?_cons_zero, List.getElem?_cons_succ, Option.some.injEq, V.int.injEq, V.bl.injEq, V.ref.injEq, V.str.injEq, List.cons.injEq, exists_eq_left', exists_eq_left, exists_and_left, and_assoc, upd_same, upd_upd, HO.lst.injEq, HO.tup.injEq, atI_0, atI_1, atI_2, atI_3, set_1, set_2, set_3, CDiv, CPow, CMul, List.length_set, Int.reduceToNat, Int.reduceLE, Int.reduceLT, Int.reducePow, Int.reduceNeg, Nat.reduceAdd, Nat.reduceLT, Nat.reduceLeDiff, Nat.reducePow, Nat.zero_add, or_true, true_or, gt_iff_lt, ge_iff_le, and_true, true_and, decide_eq_true_eq, if_true, Bool.false_eq_true, if_false]
    unfold rListD tDNewK
    simp only [gStr2, gSeqH, tDc_c, tDGet, sDPut, rCat, tBreak, rExtend, tSeq, tAsg, tRet, tRetN, tDrop, tIfS, tNext, tNever, tOp, tUn, tVar, tC, rI0, rI, rU, tTest, tIf, tB, tAnd, tOr, tNot, tAndV, tOrV, tNotV, gName, gSub, gTupH, gCons, gNil, tYes, tCons, tNil, tLst, tTup, tCB, tCall, tMeth, tMake, tFld, sFld, tFor_c, tLc_c, iRng1, iList, iTup, iStr, iSeqB, iEnumB, tM1, tSl, tPart, tNoPart, rSlS, rIxS, tBM, rAppend, tIf, rEq, rNe, scal, hIx, hIxT, hIxB, hSet, hInt, hIntB, hLen, hLenT, hLenB, L2.start, wipe, List.map_cons, List.map_nil, List.set_cons_zero, List.set_cons_succ, List.set_nil, List.length_cons, List.length_nil, List.length_map, List.cons_append, List.nil_append, List.append_nil, List.replicate, List.getElem?_cons_zero, List.getElem?_cons_succ, Option.some.injEq, V.int.injEq, V.bl.injEq, V.ref.injEq, V.str.injEq, List.cons.injEq, exists_eq_left', exists_eq_left, exists_and_left, and_assoc, upd_same, upd_upd, HO.lst.injEq, HO.tup.injEq, atI_0, atI_1, atI_2, atI_3, set_1, set_2, set_3, CDiv, CPow, CMul, List.length_set, Int.reduceToNat, Int.reduceLE, Int.reduceLT, Int.reducePow, Int.reduceNeg, Nat.reduceAdd, Nat.reduceLT, Nat.reduceLeDiff, Nat.reducePow, Nat.zero_add, or_true, true_or, gt_iff_lt, ge_iff_le, and_true, true_and, decide_eq_true_eq, if_true, Bool.false_eq_true, if_false]
    obtain ⟨as, A1, A2, A3, A4⟩ := hA.ex
    rw [List.length_map] at A2
    refine ⟨⟨_, rfl⟩, _, A1, fun q0 hq0 => ?_⟩
    have lAN : (AN.take rows.length).length = rows.length := by
      rw [List.length_take, AN_len]
      omega
    have ej : Txt.join (Str.ofString "") = fun ys => Str.join Str.empty ys := funext fun ys => TL.join_eq _ ys
    have e0 : (Str.ofString "").length = 0 := by decide +kernel
    rw [hadF_keys, List.length_map, A2, AN_rng h6]
    have s1 := same_new (o := .lst (((AN.take rows.length).map fun c => tx [c]).map V.str)) hq0
    generalize hH1 : upd H q0 (.lst (((AN.take rows.length).map fun c => tx [c]).map V.str)) = H1 at s1
    have e1 : H1 q0 = some (.lst (((AN.take rows.length).map fun c => tx [c]).map V.str)) := by rw [← hH1, upd_same]
    refine ⟨(AN.take rows.length).map fun c => tx [c], .inl (SqL.of e1), ?_, a.c_Margins, dx, [], s1 _ _ hp, T.C_Margins, T.n_Margins_letters, by decide, ?_⟩
    · rw [sum_one, e0, Nat.mul_zero, lAN]
      omega
    have ejt : Txt.join (Str.ofString "") ((AN.take rows.length).map fun c => tx [c]) = tx (AN.take rows.length) := by
      rw [ej]
      exact join_tx _
    simp only [ejt]
    intro dS hdS
    have hp1 := s1 _ _ hp
    have dSp : dS ≠ p := fun z => by
      rw [z, upd_same] at hdS
      cases hdS
    have hdS1 : H1 dS = none := by rwa [upd_ne dSp] at hdS
    have hdSH : H dS = none := s1.free hdS1
    refine ⟨a.c_Margins, dx, _, by rw [upd_ne dSp.symm, upd_same], T.C_Margins, T.n_Margins_spans, Nat.le_of_ble_eq_true rfl, ?_⟩
    have hdx : ∀ f g : List (Str × V), ∀ o, upd (upd (upd H1 p (.ins a.c_Margins dx f)) dS o) p (.ins a.c_Margins dx g) = upd (upd H1 dS o) p (.ins a.c_Margins dx g) := fun f g o => funext fun b => by
      by_cases h1 : b = p
      · rw [h1, upd_same, upd_same]
      · rw [upd_ne h1, upd_ne h1]
        by_cases h2 : b = dS
        · rw [h2, upd_same, upd_same]
        · rw [upd_ne h2, upd_ne h2, upd_ne h1]
    rw [hdx]
    generalize hfs : putF "spans" (V.ref dS) (putF "letters" (V.str (tx (AN.take rows.length))) []) = fs1
    have hlk : List.lookup (Str.ofString "spans") fs1 = some (V.ref dS) := by rw [← hfs, lookup_putF, if_pos rfl]
    have hf3 : fs1.length ≤ 2 := by rw [← hfs]; exact Nat.le_of_ble_eq_true rfl
    have k0 : Off1 p H (upd (upd H1 dS (.dK [])) p (.ins a.c_Margins dx fs1)) := fun b o hb e => by
      rw [upd_ne hb, upd_ne (ne_of_none (s1 _ _ e) hdS1)]
      exact s1 _ _ e
    have m0 : upd (upd H1 dS (.dK [])) p (.ins a.c_Margins dx fs1) p = some (.ins a.c_Margins dx fs1) := upd_same
    have d0 : upd (upd H1 dS (.dK [])) p (.ins a.c_Margins dx fs1) dS = some (.dK []) := by rw [upd_ne dSp, upd_same]
    generalize upd (upd H1 dS (.dK [])) p (.ins a.c_Margins dx fs1) = H2 at k0 m0 d0
    refine ⟨rows.length, rfl, h6, fun lo H3 s3 nlo elo => ⟨lo, rfl, ⟨_, SqL.of elo⟩, ?_⟩⟩
    obtain ⟨on, ol, oo⟩ := osets_ord h6
    have m3 := s3 _ _ m0
    have d3 := s3 _ _ d0
    have lop : lo ≠ p := fun z => by
      rw [z, m3] at elo
      cases elo
    have lod : lo ≠ dS := fun z => by
      rw [z, d3] at elo
      cases elo
    have k3 : Off1 p H H3 := k0.tr (Off1.of s3)
    refine forLst (xs := (osets rows.length).map fun s => V.str (tx s)) (fun i σ H' => (∃ (v4 v5 v6 : Option V), σ = [some (.ref p), some (.ref d), some (.ref l), some (.str (tx (AN.take rows.length))), v4, v5, v6]) ∧ (∀ b o, b ≠ dS → H3 b = some o → H' b = some o) ∧
        ∃ bs : List Addr, H' dS = some (.dK (kvZ ((osets rows.length).take i) (bs.map V.ref))) ∧ bs.length = i ∧ (∀ t ∈ bs, t ≠ dS) ∧ ∀ (k : Nat) (s : List Nat) (t : Addr), (osets rows.length)[k]? = some s → bs[k]? = some t → H' t = some (.lst (ni (spanOf rows s)))) ?_ ?_ ?_ ?_
    · exact ⟨⟨_, _, _, rfl⟩, fun b o _ e => e, [], d3, rfl, fun t ht => absurd ht List.not_mem_nil, fun k s t _ e => by rw [List.getElem?_nil] at e; cases e⟩
    · rintro i σ H' _ ⟨_, kk, _⟩
      exact SqL.of (kk _ _ lod elo)
    · rintro i x σ H' hx ⟨⟨v4, v5, v6, rfl⟩, kk, bs, eb, lb, nb, hb⟩
      obtain ⟨s0, hs0, rfl⟩ := map_at hx
      have hi := (List.getElem?_eq_some_iff.mp hs0).1
      obtain ⟨sne, sb⟩ := osets_b h6 (List.mem_of_getElem? hs0)
      simp only [gStr2, gSeqH, tDc_c, tDGet, sDPut, rCat, tBreak, rExtend, tSeq, tAsg, tRet, tRetN, tDrop, tIfS, tNext, tNever, tOp, tUn, tVar, tC, rI0, rI, rU, tTest, tIf, tB, tAnd, tOr, tNot, tAndV, tOrV, tNotV, gName, gSub, gTupH, gCons, gNil, tYes, tCons, tNil, tLst, tTup, tCB, tCall, tMeth, tMake, tFld, sFld, tFor_c, tLc_c, iRng1, iList, iTup, iStr, iSeqB, iEnumB, tM1, tSl, tPart, tNoPart, rSlS, rIxS, tBM, rAppend, tIf, rEq, rNe, scal, hIx, hIxT, hIxB, hSet, hInt, hIntB, hLen, hLenT, hLenB, L2.start, wipe, List.map_cons, List.map_nil, List.set_cons_zero, List.set_cons_succ, List.set_nil, List.length_cons, List.length_nil, List.length_map, List.cons_append, List.nil_append, List.append_nil, List.replicate, List.getElem?_cons_zero, List.getElem?_cons_succ, Option.some.injEq, V.int.injEq, V.bl.injEq, V.ref.injEq, V.str.injEq, List.cons.injEq, exists_eq_left', exists_eq_left, exists_and_left, and_assoc, upd_same, upd_upd, HO.lst.injEq, HO.tup.injEq, atI_0, atI_1, atI_2, atI_3, set_1, set_2, set_3, CDiv, CPow, CMul, List.length_set, Int.reduceToNat, Int.reduceLE, Int.reduceLT, Int.reducePow, Int.reduceNeg, Nat.reduceAdd, Nat.reduceLT, Nat.reduceLeDiff, Nat.reducePow, Nat.zero_add, or_true, true_or, gt_iff_lt, ge_iff_le, and_true, true_and, decide_eq_true_eq, if_true, Bool.false_eq_true, if_false]
      unfold tDGet2 rSlS
      simp only [gStr2, gSeqH, tDc_c, tDGet, sDPut, rCat, tBreak, rExtend, tSeq, tAsg, tRet, tRetN, tDrop, tIfS, tNext, tNever, tOp, tUn, tVar, tC, rI0, rI, rU, tTest, tIf, tB, tAnd, tOr, tNot, tAndV, tOrV, tNotV, gName, gSub, gTupH, gCons, gNil, tYes, tCons, tNil, tLst, tTup, tCB, tCall, tMeth, tMake, tFld, sFld, tFor_c, tLc_c, iRng1, iList, iTup, iStr, iSeqB, iEnumB, tM1, tSl, tPart, tNoPart, rSlS, rIxS, tBM, rAppend, tIf, rEq, rNe, scal, hIx, hIxT, hIxB, hSet, hInt, hIntB, hLen, hLenT, hLenB, L2.start, wipe, List.map_cons, List.map_nil, List.set_cons_zero, List.set_cons_succ, List.set_nil, List.length_cons, List.length_nil, List.length_map, List.cons_append, List.nil_append, List.append_nil, List.replicate, List.getElem?_cons_zero, List.getElem?_cons_succ, Option.some.injEq, V.int.injEq, V.bl.injEq, V.ref.injEq, V.str.injEq, List.cons.injEq, exists_eq_left', exists_eq_left, exists_and_left, and_assoc, upd_same, upd_upd, HO.lst.injEq, HO.tup.injEq, atI_0, atI_1, atI_2, atI_3, set_1, set_2, set_3, CDiv, CPow, CMul, List.length_set, Int.reduceToNat, Int.reduceLE, Int.reduceLT, Int.reducePow, Int.reduceNeg, Nat.reduceAdd, Nat.reduceLT, Nat.reduceLeDiff, Nat.reducePow, Nat.zero_add, or_true, true_or, gt_iff_lt, ge_iff_le, and_true, true_and, decide_eq_true_eq, if_true, Bool.false_eq_true, if_false]
      have mp := kk _ _ dSp.symm m3
      have kH : ∀ b o, b ≠ p → H b = some o → H' b = some o := fun b o h1 e => kk b o (ne_of_none e hdSH) (k3 b o h1 e)
      have dp : d ≠ p := fun z => by
        rw [z, hp] at A1
        cases A1
      have hA' : HadAt H' d (rows.map fun r => spn r []) := ⟨as, kH _ _ dp A1, by rw [List.length_map]; exact A2, A3, fun i r t w1 w2 => kH _ _ (fun z => by
        have := A4 i r t w1 w2
        rw [z, hp] at this
        cases this) (A4 i r t w1 w2)⟩
      have hz0 : (tx s0).length ≤ sizeLine := sizeLe (by rw [len_tx]; have := osets_six h6 (List.mem_of_getElem? hs0); omega)
      refine ⟨a.c_Margins, dx, fs1, mp, T.C_Margins, T.n_Margins_spans, _, hlk, dS, rfl, .inl ⟨_, .inl eb⟩, hz0, Nat.zero_le _, fun z0 hz0' => ?_⟩
      have s4 := same_new (o := .lst []) hz0'
      have ez := upd_same (H := H') (a := z0) (o := .lst [])
      generalize upd H' z0 (.lst []) = H4 at s4 ez
      rw [cutS_last]
      have hc := sb _ (List.getLast_mem sne)
      have hci : s0.getLast sne - 65 < rows.length := by omega
      have hri : (rows.map fun r => spn r [])[s0.getLast sne - 65]? = some (spn (rows.getD (s0.getLast sne - 65) []) []) := by
        rw [List.getElem?_map, List.getElem?_eq_getElem hci, List.getD_eq_getElem?_getD, List.getElem?_eq_getElem hci]
        rfl
      obtain ⟨t, ht, gt⟩ := (hA'.same s4).get hri
      have gt' := gt _ (Same.refl _)
      rw [show 65 + (s0.getLast sne - 65) = s0.getLast sne from by omega] at gt'
      have hs6 := osets_six h6 (List.mem_of_getElem? hs0)
      have r1 : (spn (rows.getD (s0.getLast sne - 65) []) []).length ≤ 4 := by
        have y := rank_len (rows.getD (s0.getLast sne - 65) [])
        have z : (rows.getD (s0.getLast sne - 65) []).length ≤ 4 := by
          rw [List.getD_eq_getElem?_getD, List.getElem?_eq_getElem hci]
          exact h4 _ (List.getElem_mem hci)
        exact Nat.le_trans y z
      have lt0 : ((osets rows.length).take i).length = (bs.map V.ref).length := by
        rw [List.length_take, List.length_map, lb]
        omega
      have nin : s0 ∉ (osets rows.length).take i := fun hm => by
        obtain ⟨j, hj, ej2⟩ := List.mem_iff_getElem.mp hm
        rw [List.length_take] at hj
        have h1 : (osets rows.length)[j]? = some s0 := by
          rw [← ej2, List.getElem_take]
          exact List.getElem?_eq_getElem _
        have h2 := (List.getElem?_inj (by omega) on).mp (h1.trans hs0.symm)
        omega
      have stepQ : ∀ (x : Addr), H4 x = some (.lst (ni (spanOf rows s0.dropLast))) → spSpanned K [.ref t, .ref x] H4 (fun v H1 =>
          ∃ x x_4 x_5, H1 p = some (HO.ins x x_4 x_5) ∧ Cls (cxOf CX0 P w K mg base sc_Margins_init_N (Str.ofString "Margins.__init__") (defScope s_Margins_init) a.a_Margins_init cdv A outer s H E).K x ∧ NoAttr (cxOf CX0 P w K mg base sc_Margins_init_N (Str.ofString "Margins.__init__") (defScope s_Margins_init) a.a_Margins_init cdv A outer s H E).K x (Str.ofString "spans") ∧
            ∃ x, List.lookup (Str.ofString "spans") x_5 = some x ∧ ∃ a, x = V.ref a ∧ ∃ x, DPut H1 a (V.str (tx s0)) v x ∧ (∃ x, v6 = x) ∧ (∀ (b : Addr) (o : HO), b ≠ dS → H3 b = some o → x b = some o) ∧
              ∃ bs, x dS = some (HO.dK (kvZ (List.take (i + 1) (osets rows.length)) (List.map V.ref bs))) ∧ bs.length = i + 1 ∧ (∀ (t : Addr), t ∈ bs → t ≠ dS) ∧ ∀ (k : Nat) (s : List Nat) (t : Addr), (osets rows.length)[k]? = some s → bs[k]? = some t → x t = some (HO.lst (ni (spanOf rows s)))) E0 := by
        intro x ex
        have := span_small h4 s0.dropLast
        rw [List.length_dropLast] at this
        refine ⟨t, x, _, _, rfl, SqL.of ht, .inl (SqL.of ex), by omega, fun D H5 s5 nD eD => ?_⟩
        have s45 := Same.tr s4 s5
        have Dd : D ≠ dS := fun z => by
          rw [z, s4 _ _ eb] at nD
          cases nD
        refine ⟨a.c_Margins, dx, fs1, s45 _ _ mp, T.C_Margins, T.n_Margins_spans, _, hlk, dS, rfl, _, .inl ⟨_, .inr (tx s0), s45 _ _ eb, rfl, ?_, rfl⟩, ⟨_, rfl⟩, fun b o hb1 e => ?_, bs ++ [D], ?_, ?_, ?_, ?_⟩
        · rw [kvZ_len _ _ lt0, List.length_take]
          exact small1000 (by omega)
        · rw [upd_ne hb1]
          exact s45 _ _ (kk b o hb1 e)
        · rw [upd_same, kvZ_put _ nin lt0, List.map_append, take_s hs0]
          rfl
        · rw [List.length_append, lb]
          rfl
        · intro v hv
          rcases List.mem_append.mp hv with z | z
          · exact nb v z
          · rw [List.mem_singleton.mp z]
            exact Dd
        · intro k s1' v w1 w2
          by_cases hk : k < bs.length
          · rw [List.getElem?_append_left hk] at w2
            rw [upd_ne (nb v (List.mem_of_getElem? w2))]
            exact s45 _ _ (hb k s1' v w1 w2)
          · rw [List.getElem?_append_right (by omega)] at w2
            have hz : k - bs.length = 0 := by
              have := (List.getElem?_eq_some_iff.mp w2).1
              simp only [List.length_cons, List.length_nil] at this
              omega
            rw [hz] at w2
            cases Option.some.inj w2
            rw [show k = i from by omega, hs0] at w1
            cases Option.some.inj w1
            rw [upd_ne Dd, spanOf_snoc rows sne]
            exact eD
      by_cases hdl : s0.dropLast = []
      · refine ⟨none, .inl ⟨_, .inr (tx s0.dropLast), .inl (s4 _ _ eb), rfl, ?_⟩, hz0, _, last_at sne, _, gt', ?_⟩
        · refine (kvZ_none _ _ fun hm => ?_).symm
          rw [hdl] at hm
          exact (osets_b h6 (List.mem_of_mem_take hm)).1 rfl
        · refine stepQ z0 ?_
          rw [hdl]
          exact ez
      · obtain hdr := (oo i s0 hs0).resolve_left hdl
        obtain ⟨j, hj, ej2⟩ := List.mem_iff_getElem.mp hdr
        have hj2 := hj
        rw [List.length_take] at hj2
        have hjb : bs[j]? = some (bs[j]'(by omega)) := List.getElem?_eq_getElem _
        have hjo : (osets rows.length)[j]? = some s0.dropLast := by
          rw [← ej2, List.getElem_take]
          exact List.getElem?_eq_getElem _
        refine ⟨some (.ref (bs[j]'(by omega))), .inl ⟨_, .inr (tx s0.dropLast), .inl (s4 _ _ eb), rfl, ?_⟩, hz0, _, last_at sne, _, gt', ?_⟩
        · rw [kvZ_val _ _ (on.sublist (List.take_sublist _ _)) (by rw [← ej2]; exact List.getElem?_eq_getElem hj) lt0, List.getElem?_map, hjb]
          rfl
        · exact stepQ _ (s4 _ _ (hb j _ _ hjo hjb))
    · rintro σ H' ⟨⟨v4, v5, v6, rfl⟩, kk, bs, eb, lb, nb, hb⟩
      simp only [gStr2, gSeqH, tDc_c, tDGet, sDPut, rCat, tBreak, rExtend, tSeq, tAsg, tRet, tRetN, tDrop, tIfS, tNext, tNever, tOp, tUn, tVar, tC, rI0, rI, rU, tTest, tIf, tB, tAnd, tOr, tNot, tAndV, tOrV, tNotV, gName, gSub, gTupH, gCons, gNil, tYes, tCons, tNil, tLst, tTup, tCB, tCall, tMeth, tMake, tFld, sFld, tFor_c, tLc_c, iRng1, iList, iTup, iStr, iSeqB, iEnumB, tM1, tSl, tPart, tNoPart, rSlS, rIxS, tBM, rAppend, tIf, rEq, rNe, scal, hIx, hIxT, hIxB, hSet, hInt, hIntB, hLen, hLenT, hLenB, L2.start, wipe, List.map_cons, List.map_nil, List.set_cons_zero, List.set_cons_succ, List.set_nil, List.length_cons, List.length_nil, List.length_map, List.cons_append, List.nil_append, List.append_nil, List.replicate, List.getElem?_cons_zero, List.getElem?_cons_succ, Option.some.injEq, V.int.injEq, V.bl.injEq, V.ref.injEq, V.str.injEq, List.cons.injEq, exists_eq_left', exists_eq_left, exists_and_left, and_assoc, upd_same, upd_upd, HO.lst.injEq, HO.tup.injEq, atI_0, atI_1, atI_2, atI_3, set_1, set_2, set_3, CDiv, CPow, CMul, List.length_set, Int.reduceToNat, Int.reduceLE, Int.reduceLT, Int.reducePow, Int.reduceNeg, Nat.reduceAdd, Nat.reduceLT, Nat.reduceLeDiff, Nat.reducePow, Nat.zero_add, or_true, true_or, gt_iff_lt, ge_iff_le, and_true, true_and, decide_eq_true_eq, if_true, Bool.false_eq_true, if_false]
      intro dD hdD
      have mp := kk _ _ dSp.symm m3
      have kH : ∀ b o, b ≠ p → H b = some o → H' b = some o := fun b o h1 e => kk b o (ne_of_none e hdSH) (k3 b o h1 e)
      have dDp : p ≠ dD := ne_of_none mp hdD
      refine ⟨a.c_Margins, dx, fs1, by rw [upd_ne dDp]; exact mp, T.C_Margins, T.n_Margins_demands, by omega, fun dB hdB => ?_⟩
      have dBp : dB ≠ p := fun z => by
        rw [z, upd_same] at hdB
        cases hdB
      rw [upd_ne dBp] at hdB
      have dBD : dB ≠ dD := fun z => by
        rw [z, upd_same] at hdB
        cases hdB
      have hdB' : H' dB = none := by rwa [upd_ne dBD] at hdB
      have l3 : (putF (Str.ofString "demands") (V.ref dD) fs1).length ≤ 3 := by rw [← hfs]; exact Nat.le_of_ble_eq_true rfl
      refine ⟨a.c_Margins, dx, _, by rw [upd_ne dBp.symm, upd_same], T.C_Margins, T.n_Margins_beyond, by omega, ?_⟩
      generalize hfs3 : putF (Str.ofString "beyond") (V.ref dB) (putF (Str.ofString "demands") (V.ref dD) fs1) = fs3
      have lk1 : List.lookup (Str.ofString "spans") fs3 = some (V.ref dS) := by rw [← hfs3, lookup_putF, if_neg (by decide +kernel), lookup_putF, if_neg (by decide +kernel)]; exact hlk
      have lk2 : List.lookup (Str.ofString "demands") fs3 = some (V.ref dD) := by rw [← hfs3, lookup_putF, if_neg (by decide +kernel), lookup_putF, if_pos rfl]
      have lk3 : List.lookup (Str.ofString "beyond") fs3 = some (V.ref dB) := by rw [← hfs3, lookup_putF, if_pos rfl]
      generalize hH7 : upd (upd (upd (upd H' dD (.dK [])) p (.ins a.c_Margins dx (putF (Str.ofString "demands") (V.ref dD) fs1))) dB (.dK [])) p (.ins a.c_Margins dx fs3) = H7
      have k7 : ∀ b o, b ≠ p → H' b = some o → H7 b = some o := fun b o hb1 e => by
        rw [← hH7, upd_ne hb1, upd_ne (ne_of_none e hdB'), upd_ne hb1, upd_ne (ne_of_none e hdD)]
        exact e
      have m7 : H7 p = some (.ins a.c_Margins dx fs3) := by rw [← hH7, upd_same]
      have D7 : H7 dD = some (.dK []) := by rw [← hH7, upd_ne dDp.symm, upd_ne dBD.symm, upd_ne dDp.symm, upd_same]
      have B7 : H7 dB = some (.dK []) := by rw [← hH7, upd_ne dBp, upd_same]
      have S7 := k7 _ _ dSp eb
      rw [List.length_map, List.take_of_length_le (Nat.le_refl _)] at S7
      rw [List.length_map] at lb
      unfold iItems
      refine ⟨dS, _, S7, trivial, fun od => ?_⟩
      simp only [gStr2, gSeqH, tDc_c, tDGet, sDPut, rCat, tBreak, rExtend, tSeq, tAsg, tRet, tRetN, tDrop, tIfS, tNext, tNever, tOp, tUn, tVar, tC, rI0, rI, rU, tTest, tIf, tB, tAnd, tOr, tNot, tAndV, tOrV, tNotV, gName, gSub, gTupH, gCons, gNil, tYes, tCons, tNil, tLst, tTup, tCB, tCall, tMeth, tMake, tFld, sFld, tFor_c, tLc_c, iRng1, iList, iTup, iStr, iSeqB, iEnumB, tM1, tSl, tPart, tNoPart, rSlS, rIxS, tBM, rAppend, tIf, rEq, rNe, scal, hIx, hIxT, hIxB, hSet, hInt, hIntB, hLen, hLenT, hLenB, L2.start, wipe, List.map_cons, List.map_nil, List.set_cons_zero, List.set_cons_succ, List.set_nil, List.length_cons, List.length_nil, List.length_map, List.cons_append, List.nil_append, List.append_nil, List.replicate, List.getElem?_cons_zero, List.getElem?_cons_succ, Option.some.injEq, V.int.injEq, V.bl.injEq, V.ref.injEq, V.str.injEq, List.cons.injEq, exists_eq_left', exists_eq_left, exists_and_left, and_assoc, upd_same, upd_upd, HO.lst.injEq, HO.tup.injEq, atI_0, atI_1, atI_2, atI_3, set_1, set_2, set_3, CDiv, CPow, CMul, List.length_set, Int.reduceToNat, Int.reduceLE, Int.reduceLT, Int.reducePow, Int.reduceNeg, Nat.reduceAdd, Nat.reduceLT, Nat.reduceLeDiff, Nat.reducePow, Nat.zero_add, or_true, true_or, gt_iff_lt, ge_iff_le, and_true, true_and, decide_eq_true_eq, if_true, Bool.false_eq_true, if_false]
      have Sp : p ≠ dS := dSp.symm
      have SD : dS ≠ dD := ne_of_none eb hdD
      have SB : dS ≠ dB := ne_of_none eb hdB'
      have gz : upd H7 dS (.frz od (.dK (kvZ (osets rows.length) (bs.map V.ref)))) dS = some (.frz od (.dK (kvZ (osets rows.length) (bs.map V.ref)))) := upd_same
      have kG : ∀ b o, b ≠ dS → H7 b = some o → upd H7 dS (.frz od (.dK (kvZ (osets rows.length) (bs.map V.ref)))) b = some o := fun b o h1 e => by
        rw [upd_ne h1]
        exact e
      have kG' : ∀ b o, upd H7 dS (.frz od (.dK (kvZ (osets rows.length) (bs.map V.ref)))) b = some o → b ≠ dS → H7 b = some o := fun b o e h1 => by rwa [upd_ne h1] at e
      generalize upd H7 dS (.frz od (.dK (kvZ (osets rows.length) (bs.map V.ref)))) = G at gz kG kG'
      have mG := kG _ _ Sp m7
      refine ⟨a.c_Margins, dx, fs3, mG, T.C_Margins, T.n_Margins_spans, _, lk1, dS, rfl, od, _, gz, ?_⟩
      have lbz : (osets rows.length).length = (bs.map V.ref).length := by rw [List.length_map, lb]
      obtain ⟨j, hj, ej2⟩ := List.mem_iff_getElem.mp (osets_top h6 h1)
      have hjo : (osets rows.length)[j]? = some (AN.take rows.length) := by rw [← ej2]; exact List.getElem?_eq_getElem hj
      have hjb : bs[j]? = some (bs[j]'(by omega)) := List.getElem?_eq_getElem _
      have kL : ∀ (i : Nat) (s : List Nat) (t : Addr), (osets rows.length)[i]? = some s → bs[i]? = some t → G t = some (.lst (ni (spanOf rows s))) := fun i s t w1 w2 => by
        have z := hb i s t w1 w2
        have tp : t ≠ p := fun y => by
          rw [y, mp] at z
          cases z
        exact kG _ _ (nb t (List.mem_of_getElem? w2)) (k7 _ _ tp z)
      have hLG : RowAt G l (lks ls) := by
        have lp : ∀ {o}, H l = some o → (∀ xs, o ≠ .ins a.c_Margins dx xs) → l ≠ p := fun e n z => by
          rw [z, hp] at e
          exact n _ (Option.some.inj e).symm
        have lS : ∀ {o}, H l = some o → l ≠ dS := fun e => ne_of_none e hdSH
        rcases hL with e | e
        · exact .inl (kG _ _ (lS e) (k7 _ _ (lp e fun _ z => by cases z) (kH _ _ (lp e fun _ z => by cases z) e)))
        · exact .inr (kG _ _ (lS e) (k7 _ _ (lp e fun _ z => by cases z) (kH _ _ (lp e fun _ z => by cases z) e)))
      have lD : l ≠ dD ∧ l ≠ dB := by
        have lp : ∀ {o}, H l = some o → (∀ xs, o ≠ .ins a.c_Margins dx xs) → l ≠ p := fun e n z => by
          rw [z, hp] at e
          exact n _ (Option.some.inj e).symm
        rcases hL with e | e
        · have z := kH _ _ (lp e fun _ z => by cases z) e
          exact ⟨ne_of_none z hdD, ne_of_none z hdB'⟩
        · have z := kH _ _ (lp e fun _ z => by cases z) e
          exact ⟨ne_of_none z hdD, ne_of_none z hdB'⟩
      refine forItems (fun i σ H' => (∃ (v4 v5 v6 : Option V), σ = [some (.ref p), some (.ref d), some (.ref l), some (.str (tx (AN.take rows.length))), v4, v5, v6]) ∧ (∀ b o, b ≠ dD → b ≠ dB → G b = some o → H' b = some o) ∧
        H' dD = some (.dK (kvZ ((osets rows.length).take i) (((osets rows.length).take i).map fun s => V.int (dmd rows s)))) ∧ H' dB = some (.dK (kvZ ((osets rows.length).take i) (((osets rows.length).take i).map fun s => V.int (bey rows ls s))))) ?_ ?_ ?_ ?_
      · exact ⟨⟨_, _, _, rfl⟩, fun b o _ _ e => e, kG _ _ SD.symm D7, kG _ _ SB.symm B7⟩
      · rintro i σ H' ⟨_, kk2, _⟩
        exact kk2 _ _ SD SB gz
      · rintro i k x t σ H9 hx ⟨⟨v4, v5, v6, rfl⟩, kk2, eD, eB⟩ ht
        have hi : i < (osets rows.length).length := by
          have := (List.getElem?_eq_some_iff.mp hx).1
          rwa [kvZ_len _ _ lbz] at this
        have hs0 : (osets rows.length)[i]? = some (osets rows.length)[i] := List.getElem?_eq_getElem hi
        have hbi : bs[i]? = some (bs[i]'(by omega)) := List.getElem?_eq_getElem _
        rw [kvZ_at _ _ i hs0 (by rw [List.getElem?_map, hbi]; rfl)] at hx
        obtain ⟨rfl, rfl⟩ := Prod.mk.inj (Option.some.inj hx)
        generalize (osets rows.length)[i] = s0 at hs0
        refine ⟨t, _, rfl, upd_same, rfl, ?_⟩
        simp only [gStr2, gSeqH, tDc_c, tDGet, sDPut, rCat, tBreak, rExtend, tSeq, tAsg, tRet, tRetN, tDrop, tIfS, tNext, tNever, tOp, tUn, tVar, tC, rI0, rI, rU, tTest, tIf, tB, tAnd, tOr, tNot, tAndV, tOrV, tNotV, gName, gSub, gTupH, gCons, gNil, tYes, tCons, tNil, tLst, tTup, tCB, tCall, tMeth, tMake, tFld, sFld, tFor_c, tLc_c, iRng1, iList, iTup, iStr, iSeqB, iEnumB, tM1, tSl, tPart, tNoPart, rSlS, rIxS, tBM, rAppend, tIf, rEq, rNe, scal, hIx, hIxT, hIxB, hSet, hInt, hIntB, hLen, hLenT, hLenB, L2.start, wipe, List.map_cons, List.map_nil, List.set_cons_zero, List.set_cons_succ, List.set_nil, List.length_cons, List.length_nil, List.length_map, List.cons_append, List.nil_append, List.append_nil, List.replicate, List.getElem?_cons_zero, List.getElem?_cons_succ, Option.some.injEq, V.int.injEq, V.bl.injEq, V.ref.injEq, V.str.injEq, List.cons.injEq, exists_eq_left', exists_eq_left, exists_and_left, and_assoc, upd_same, upd_upd, HO.lst.injEq, HO.tup.injEq, atI_0, atI_1, atI_2, atI_3, set_1, set_2, set_3, CDiv, CPow, CMul, List.length_set, Int.reduceToNat, Int.reduceLE, Int.reduceLT, Int.reducePow, Int.reduceNeg, Nat.reduceAdd, Nat.reduceLT, Nat.reduceLeDiff, Nat.reducePow, Nat.zero_add, or_true, true_or, gt_iff_lt, ge_iff_le, and_true, true_and, decide_eq_true_eq, if_true, Bool.false_eq_true, if_false]
        have s9 := same_new (o := .tup [kV (.inr (tx s0)), V.ref (bs[i]'(by omega))]) ht
        have kk3 : ∀ b o, b ≠ dD → b ≠ dB → G b = some o → upd H9 t (.tup [kV (.inr (tx s0)), V.ref (bs[i]'(by omega))]) b = some o := fun b o h1 h2 e => s9 _ _ (kk2 b o h1 h2 e)
        have eD9 := s9 _ _ eD
        have eB9 := s9 _ _ eB
        generalize upd H9 t (.tup [kV (.inr (tx s0)), V.ref (bs[i]'(by omega))]) = H10 at s9 kk3 eD9 eB9
        have m10 := kk3 _ _ dDp dBp.symm mG
        have lst10 : ∀ (i : Nat) (s : List Nat) (t : Addr), (osets rows.length)[i]? = some s → bs[i]? = some t → t ≠ dD ∧ t ≠ dB ∧ H10 t = some (.lst (ni (spanOf rows s))) := fun i s t w1 w2 => by
          have z := hb i s t w1 w2
          exact ⟨ne_of_none z hdD, ne_of_none z hdB', kk3 _ _ (ne_of_none z hdD) (ne_of_none z hdB') (kL i s t w1 w2)⟩
        have nin : s0 ∉ (osets rows.length).take i := fun hm => by
          obtain ⟨j', hj', ej'⟩ := List.mem_iff_getElem.mp hm
          rw [List.length_take] at hj'
          have h1 : (osets rows.length)[j']? = some s0 := by
            rw [← ej', List.getElem_take]
            exact List.getElem?_eq_getElem _
          have h2 := (List.getElem?_inj (by omega) on).mp (h1.trans hs0.symm)
          omega
        have ltk : ∀ f : List Nat → V, ((osets rows.length).take i).length = (((osets rows.length).take i).map f).length := fun f => by rw [List.length_map]
        have sm : ((osets rows.length).take i).length ≤ 1000 := by
          rw [List.length_take]
          omega
        refine ⟨a.c_Margins, dx, fs3, m10, T.C_Margins, T.n_Margins_spans, _, lk1, dS, rfl, _, .inl ⟨_, .inr (tx (AN.take rows.length)), .inr ⟨od, kk3 _ _ SD SB gz⟩, rfl, ?_⟩, bs[j]'(by omega), rfl, _, (lst10 _ _ _ hjo hjb).2.2, _, (lst10 _ _ _ hs0 hbi).2.2,
          a.c_Margins, dx, fs3, m10, T.C_Margins, T.n_Margins_demands, _, lk2, dD, rfl, _, .inl ⟨_, .inr (tx s0), eD9, rfl, by rw [kvZ_len _ _ (ltk _)]; exact small1000 sm, rfl⟩, ?_⟩
        · rw [kvZ_val _ _ on hjo lbz, List.getElem?_map, hjb]
          rfl
        rw [kvZ_put _ nin (ltk _), ni_len, ni_len]
        have tkS : (osets rows.length).take i ++ [s0] = (osets rows.length).take (i + 1) := (take_s hs0).symm
        have mpS : ∀ f : List Nat → V, ((osets rows.length).take i).map f ++ [f s0] = ((osets rows.length).take (i + 1)).map f := fun f => by rw [take_s hs0, List.map_append]; rfl
        rw [show V.int (((spanOf rows (AN.take rows.length)).length : Int) - ((spanOf rows s0).length : Int)) = (fun s => V.int (dmd rows s)) s0 from rfl, tkS, mpS]
        have e11 : upd H10 dD (.dK (kvZ ((osets rows.length).take (i + 1)) (((osets rows.length).take (i + 1)).map fun s => V.int (dmd rows s)))) dD = some (.dK (kvZ ((osets rows.length).take (i + 1)) (((osets rows.length).take (i + 1)).map fun s => V.int (dmd rows s)))) := upd_same
        have k11 : ∀ b o, b ≠ dD → H10 b = some o → upd H10 dD (.dK (kvZ ((osets rows.length).take (i + 1)) (((osets rows.length).take (i + 1)).map fun s => V.int (dmd rows s)))) b = some o := fun b o h1 e => by
          rw [upd_ne h1]
          exact e
        generalize upd H10 dD (.dK (kvZ ((osets rows.length).take (i + 1)) (((osets rows.length).take (i + 1)).map fun s => V.int (dmd rows s)))) = H11 at e11 k11
        have hL11 : RowAt H11 l (lks ls) := by
          exact hLG.imp (fun e => k11 _ _ lD.1 (kk3 _ _ lD.1 lD.2 e)) (fun e => k11 _ _ lD.1 (kk3 _ _ lD.1 lD.2 e))
        refine ⟨l, ls, s0, rfl, hL11, hl, fun D12 H12 s12 nD12 e12 => ?_⟩
        have m12 := s12 _ _ (k11 _ _ dDp m10)
        have eB12 := s12 _ _ (k11 _ _ dBD eB9)
        have eD12 := s12 _ _ e11
        have hi1 : ((osets rows.length).take (i + 1))[i]? = some s0 := by
          rw [List.getElem?_take, if_pos (by omega)]
          exact hs0
        refine ⟨D12, rfl, _, e12, a.c_Margins, dx, fs3, m12, T.C_Margins, T.n_Margins_demands, _, lk2, dD, rfl, _, .inl ⟨_, .inr (tx s0), .inl eD12, rfl, ?_⟩, dmd rows s0, rfl, a.c_Margins, dx, fs3, m12, T.C_Margins, T.n_Margins_beyond, _, lk3, dB, rfl, _, .inl ⟨_, .inr (tx s0), eB12, rfl, by rw [kvZ_len _ _ (ltk _)]; exact small1000 sm, rfl⟩, ⟨_, rfl⟩, fun b o hb1 hb2 e => ?_, ?_, ?_⟩
        · rw [kvZ_val _ _ (on.sublist (List.take_sublist _ _)) hi1 (by rw [List.length_map]), List.getElem?_map, hi1]
          rfl
        · rw [upd_ne hb2]
          exact s12 _ _ (k11 _ _ hb1 (kk3 _ _ hb1 hb2 e))
        · rw [upd_ne dBD.symm]
          exact eD12
        · rw [upd_same, kvZ_put _ nin (ltk _), ni_len, show V.int (((entL ls s0).length : Int) - dmd rows s0) = (fun s => V.int (bey rows ls s)) s0 from rfl, tkS, mpS]
      · rintro σ H9 ⟨⟨v4, v5, v6, rfl⟩, kk2, eD, eB⟩
        rw [kvZ_len _ _ lbz, List.take_of_length_le (Nat.le_refl _)] at eD eB
        simp only [gStr2, gSeqH, tDc_c, tDGet, sDPut, rCat, tBreak, rExtend, tSeq, tAsg, tRet, tRetN, tDrop, tIfS, tNext, tNever, tOp, tUn, tVar, tC, rI0, rI, rU, tTest, tIf, tB, tAnd, tOr, tNot, tAndV, tOrV, tNotV, gName, gSub, gTupH, gCons, gNil, tYes, tCons, tNil, tLst, tTup, tCB, tCall, tMeth, tMake, tFld, sFld, tFor_c, tLc_c, iRng1, iList, iTup, iStr, iSeqB, iEnumB, tM1, tSl, tPart, tNoPart, rSlS, rIxS, tBM, rAppend, tIf, rEq, rNe, scal, hIx, hIxT, hIxB, hSet, hInt, hIntB, hLen, hLenT, hLenB, L2.start, wipe, List.map_cons, List.map_nil, List.set_cons_zero, List.set_cons_succ, List.set_nil, List.length_cons, List.length_nil, List.length_map, List.cons_append, List.nil_append, List.append_nil, List.replicate, List.getElem?_cons_zero, List.getElem?_cons_succ, Option.some.injEq, V.int.injEq, V.bl.injEq, V.ref.injEq, V.str.injEq, List.cons.injEq, exists_eq_left', exists_eq_left, exists_and_left, and_assoc, upd_same, upd_upd, HO.lst.injEq, HO.tup.injEq, atI_0, atI_1, atI_2, atI_3, set_1, set_2, set_3, CDiv, CPow, CMul, List.length_set, Int.reduceToNat, Int.reduceLE, Int.reduceLT, Int.reducePow, Int.reduceNeg, Nat.reduceAdd, Nat.reduceLT, Nat.reduceLeDiff, Nat.reducePow, Nat.zero_add, or_true, true_or, gt_iff_lt, ge_iff_le, and_true, true_and, decide_eq_true_eq, if_true, Bool.false_eq_true, if_false]
        refine ⟨kk2 _ _ SD SB gz, q _ (fun b o hb1 e => ?_) ⟨dx, dS, dD, dB, bs, fs3, ?_, lk1, lk2, lk3, upd_same, lb, fun i s t w1 w2 => ?_, ?_, ?_, fun f n1 n2 n3 n4 => ?_⟩⟩
        · have hbS : b ≠ dS := ne_of_none e hdSH
          rw [upd_ne hbS]
          have e' := kH _ _ hb1 e
          exact kk2 _ _ (ne_of_none e' hdD) (ne_of_none e' hdB') (kG _ _ hbS (k7 _ _ hb1 e'))
        · rw [upd_ne Sp]
          exact kk2 _ _ dDp dBp.symm mG
        · have z := hb i s t w1 w2
          rw [upd_ne (nb t (List.mem_of_getElem? w2))]
          exact kk2 _ _ (ne_of_none z hdD) (ne_of_none z hdB') (kL i s t w1 w2)
        · rw [upd_ne SD.symm]
          exact eD
        · rw [upd_ne SB.symm]
          exact eB
        · rw [← hfs3, lookup_putF, if_neg n4, lookup_putF, if_neg n3, ← hfs, lookup_putF, if_neg n2, lookup_putF, if_neg n1]
          rfl
end
end AK
set_option Elab.async false
set_option linter.all false
set_option maxRecDepth 100000
set_option maxHeartbeats 4000000
namespace AK
open PySem PySem.Spec PyProof.Rows L2
theorem lcItems {g : TG} {σ : L2.St} {H : Hp} {tt : TT} {te : TE} {vs : List Nat} {Q : VK} {d : Addr} {o : Obj} {kvs : List (L2.Key × V)} (Pv : Nat → Addr → Hp → Prop) (h0 : ∀ D, H D = none → Pv 0 D (upd H D (.lst []))) (hk : ∀ i D H', H D = none → Pv i D H' → H' d = some (.frz o (.dK kvs)))
    (hs : ∀ i k x t D H', H D = none → kvs[i]? = some (k, x) → Pv i D H' → H' t = none → g (.ref t) (wipe σ vs) (upd H' t (.tup [kV k, x])) fun σ2 H2 => wipe σ2 vs = wipe σ vs ∧ tt σ2 H2 fun b H3 => if b = true then te σ2 H3 fun y H4 => ∃ acc, H4 D = some (.lst acc) ∧ acc.length < sizeLine ∧ Pv (i + 1) D (upd H4 D (.lst (acc ++ [y]))) else Pv (i + 1) D H3)
    (hd : ∀ D H', H D = none → Pv kvs.length D H' → Q (.ref D) H') : contL g tt te vs σ Q (Iti d o kvs) H := by
  intro D hD
  refine ⟨fun i m H' => m = kvs.length - i ∧ i ≤ kvs.length ∧ Pv i D H', ⟨kvs.length, by simp, Nat.zero_le _, h0 D hD⟩, ?_⟩
  rintro i m H' ⟨rfl, hi, p⟩
  have hfz := hk i D H' hD p
  by_cases hlt : i < kvs.length
  · refine .inr ⟨⟨hfz, hlt⟩, fun H' => Pv (i + 1) D H', fun H' p' => ⟨kvs.length - (i + 1), by omega, rfl, hlt, p'⟩, fun y H2 hy => ?_⟩
    obtain ⟨t, k, x, hx, rfl, ht, rfl⟩ := hy
    exact hs i k x t D H' hD hx p ht
  · have e : i = kvs.length := by omega
    subst e
    exact .inl ⟨⟨hfz, Nat.le_refl _⟩, hd D H' hD p⟩
def defS (rows : List (List Nat)) (ls : List (Nat × Nat)) : List (List Nat) := (osets rows.length).filter fun s => decide (bey rows ls s < 0)
def tigS (rows : List (List Nat)) (ls : List (Nat × Nat)) : List (List Nat) := (osets rows.length).filter fun s => decide (bey rows ls s = 0)
/-- a dict that is read while it is locked -/
theorem unlock {H H' G : Hp} {d : Addr} {u : HO} {o : Obj} (e : H d = some u) (hG : upd H d (.frz o u) = G) (s : Same G H') : Same H (upd H' d u) := fun b x h => by
  by_cases c : b = d
  · rw [c] at h ⊢
    rw [upd_same, ← e, h]
  · rw [upd_ne c]
    refine s _ _ ?_
    rw [← hG, upd_ne c]
    exact h
end AK
set_option Elab.async false
set_option linter.all false
set_option maxRecDepth 100000
set_option maxHeartbeats 4000000
namespace AK
open PySem PySem.Spec PyProof.Rows L2
section
variable {P : Program} {w : World} {K : PySem.W.Frag} {mg : Str → Option Value} {base : Heap} {a : Ads}
def spMDef (C : Addr) : Sp := fun vs H Q _ => ∃ (m : Addr) (rows : List (List Nat)) (ls : List (Nat × Nat)), vs = [.ref m] ∧ MarAt C H m rows ls ∧ rows.length ≤ 6 ∧ ∀ D H', Same H H' → H D = none → H' D = some (.lst ((defS rows ls).map fun s => V.str (tx s))) → Q (.ref D) H'
theorem ok_deficient (T : Txt K mg a) : FnOk P w K mg base CX0 1 a.a_Margins_deficient a.d_Margins_deficient ["self"] (spMDef a.c_Margins) := by
  refine T.F_Margins_deficient.ok sc_Margins_deficient (fun vs H Q E h => ?_) (fun cdv A outer s H vs Q E hr h => ?_)
  · obtain ⟨_, _, _, rfl, _⟩ := h
    rfl
  · obtain ⟨m, rows, ls, rfl, hM, h6, q⟩ := h
    obtain ⟨dx, dS, dD, dB, as, fs, e1, l1, l2, l3, eS, las, hb, eD, eB, nf⟩ := hM.ex
    refine ⟨_, (pss_one (ps_ret (pe_lock (pe_lc (own := [("nodes", 1), ("beyond", 2)])   rfl sc_Margins_deficient.nd (pi_items (pe_fld (pv 0) rfl)) (blkOk_by (own := [("nodes", 1), ("beyond", 2)]) (N := sc_Margins_deficient_N) (sc := defScope s_Margins_deficient) (by decide +kernel)) (fun _ _ _ _ _ => (pg_tupH (n := 2) (by rfl) (pgs_cons (pg_name (i := 1) sc_Margins_deficient.nd rfl (.inl rfl)) (pgs_cons (pg_name (i := 2) sc_Margins_deficient.nd rfl (.inl rfl)) pgs_nil)))) (fun _ _ _ _ _ => (pts_one (pt_cmpR op_lt (pv 2) pe_int (nomark _)))) (fun _ _ _ _ _ => (pv 1)))))), ?_⟩
    simp only [gStr2, gSeqH, tDc_c, tDGet, sDPut, rCat, tBreak, rExtend, tSeq, tAsg, tRet, tRetN, tDrop, tIfS, tNext, tNever, tOp, tUn, tVar, tC, rI0, rI, rU, tTest, tIf, tB, tAnd, tOr, tNot, tAndV, tOrV, tNotV, gName, gSub, gTupH, gCons, gNil, tYes, tCons, tNil, tLst, tTup, tCB, tCall, tMeth, tMake, tFld, sFld, tFor_c, tLc_c, iRng1, iList, iTup, iStr, iSeqB, iEnumB, tM1, tSl, tPart, tNoPart, rSlS, rIxS, tBM, rAppend, tIf, rEq, rNe, scal, hIx, hIxT, hIxB, hSet, hInt, hIntB, hLen, hLenT, hLenB, L2.start, wipe, List.map_cons, List.map_nil, List.set_cons_zero, List.set_cons_succ, List.set_nil, List.length_cons, List.length_nil, List.length_map, List.cons_append, List.nil_append, List.append_nil, List.replicate, List.getElem?_cons_zero, List.getElem?_cons_succ, Option.some.injEq, V.int.injEq, V.bl.injEq, V.ref.injEq, V.str.injEq, List.cons.injEq, exists_eq_left', exists_eq_left, exists_and_left, and_assoc, upd_same, upd_upd, HO.lst.injEq, HO.tup.injEq, atI_0, atI_1, atI_2, atI_3, set_1, set_2, set_3, CDiv, CPow, CMul, List.length_set, Int.reduceToNat, Int.reduceLE, Int.reduceLT, Int.reducePow, Int.reduceNeg, Nat.reduceAdd, Nat.reduceLT, Nat.reduceLeDiff, Nat.reducePow, Nat.zero_add, or_true, true_or, gt_iff_lt, ge_iff_le, and_true, true_and, decide_eq_true_eq, if_true, Bool.false_eq_true, if_false]
    unfold tLockE
    refine ⟨dB, _, eB, trivial, fun od => ?_⟩
    unfold iItems
    simp only [gStr2, gSeqH, tDc_c, tDGet, sDPut, rCat, tBreak, rExtend, tSeq, tAsg, tRet, tRetN, tDrop, tIfS, tNext, tNever, tOp, tUn, tVar, tC, rI0, rI, rU, tTest, tIf, tB, tAnd, tOr, tNot, tAndV, tOrV, tNotV, gName, gSub, gTupH, gCons, gNil, tYes, tCons, tNil, tLst, tTup, tCB, tCall, tMeth, tMake, tFld, sFld, tFor_c, tLc_c, iRng1, iList, iTup, iStr, iSeqB, iEnumB, tM1, tSl, tPart, tNoPart, rSlS, rIxS, tBM, rAppend, tIf, rEq, rNe, scal, hIx, hIxT, hIxB, hSet, hInt, hIntB, hLen, hLenT, hLenB, L2.start, wipe, List.map_cons, List.map_nil, List.set_cons_zero, List.set_cons_succ, List.set_nil, List.length_cons, List.length_nil, List.length_map, List.cons_append, List.nil_append, List.append_nil, List.replicate, List.getElem?_cons_zero, List.getElem?_cons_succ, Option.some.injEq, V.int.injEq, V.bl.injEq, V.ref.injEq, V.str.injEq, List.cons.injEq, exists_eq_left', exists_eq_left, exists_and_left, and_assoc, upd_same, upd_upd, HO.lst.injEq, HO.tup.injEq, atI_0, atI_1, atI_2, atI_3, set_1, set_2, set_3, CDiv, CPow, CMul, List.length_set, Int.reduceToNat, Int.reduceLE, Int.reduceLT, Int.reducePow, Int.reduceNeg, Nat.reduceAdd, Nat.reduceLT, Nat.reduceLeDiff, Nat.reducePow, Nat.zero_add, or_true, true_or, gt_iff_lt, ge_iff_le, and_true, true_and, decide_eq_true_eq, if_true, Bool.false_eq_true, if_false]
    have mB : m ≠ dB := fun z => by
      rw [z, eB] at e1
      cases e1
    have lbz : (osets rows.length).length = ((osets rows.length).map fun s => V.int (bey rows ls s)).length := by rw [List.length_map]
    have gz : upd H dB (.frz od (.dK (kvZ (osets rows.length) ((osets rows.length).map fun s => V.int (bey rows ls s))))) dB = some (.frz od (.dK (kvZ (osets rows.length) ((osets rows.length).map fun s => V.int (bey rows ls s))))) := upd_same
    have mG : upd H dB (.frz od (.dK (kvZ (osets rows.length) ((osets rows.length).map fun s => V.int (bey rows ls s))))) m = some (.ins a.c_Margins dx fs) := by
      rw [upd_ne mB]
      exact e1
    have l63 := (osets_ord h6).2.1
    generalize hG : upd H dB (.frz od (.dK (kvZ (osets rows.length) ((osets rows.length).map fun s => V.int (bey rows ls s))))) = G at gz mG
    refine ⟨a.c_Margins, dx, fs, mG, T.C_Margins, T.n_Margins_beyond, _, l3, dB, rfl, od, _, gz, ?_⟩
    refine lcItems (fun i D H' => H' D = some (.lst ((((osets rows.length).take i).filter fun s => decide (bey rows ls s < 0)).map fun s => V.str (tx s))) ∧ Same G H') (fun D hD => ⟨upd_same, same_new hD⟩) (fun i D H' _ z => z.2 _ _ gz) ?_ ?_
    · rintro i k x t D H' hD hx ⟨e2, s1⟩ ht
      have hi : i < (osets rows.length).length := by
        have := (List.getElem?_eq_some_iff.mp hx).1
        rwa [kvZ_len _ _ lbz] at this
      have hs0 : (osets rows.length)[i]? = some (osets rows.length)[i] := List.getElem?_eq_getElem hi
      rw [kvZ_at _ _ i hs0 (by rw [List.getElem?_map, hs0]; rfl)] at hx
      obtain ⟨rfl, rfl⟩ := Prod.mk.inj (Option.some.inj hx)
      generalize (osets rows.length)[i] = s0 at hs0
      have s2 := same_new (o := .tup [kV (.inr (tx s0)), V.int (bey rows ls s0)]) ht
      have lnow : (((osets rows.length).take i).filter fun s => decide (bey rows ls s < 0)).length ≤ 63 := by
        refine Nat.le_trans (List.length_filter_le _ _) ?_
        rw [List.length_take]
        omega
      have key : ((osets rows.length).take (i + 1)).filter (fun s => decide (bey rows ls s < 0)) = ((osets rows.length).take i).filter (fun s => decide (bey rows ls s < 0)) ++ if bey rows ls s0 < 0 then [s0] else [] := by
        rw [take_s hs0, List.filter_append, List.filter_cons]
        by_cases c : bey rows ls s0 < 0
        · rw [if_pos (decide_eq_true c), if_pos c]
          rfl
        · rw [if_neg (by rw [decide_eq_false c]; decide), if_neg c]
          rfl
      refine ⟨t, _, rfl, upd_same, rfl, ?_⟩
      simp only [gStr2, gSeqH, tDc_c, tDGet, sDPut, rCat, tBreak, rExtend, tSeq, tAsg, tRet, tRetN, tDrop, tIfS, tNext, tNever, tOp, tUn, tVar, tC, rI0, rI, rU, tTest, tIf, tB, tAnd, tOr, tNot, tAndV, tOrV, tNotV, gName, gSub, gTupH, gCons, gNil, tYes, tCons, tNil, tLst, tTup, tCB, tCall, tMeth, tMake, tFld, sFld, tFor_c, tLc_c, iRng1, iList, iTup, iStr, iSeqB, iEnumB, tM1, tSl, tPart, tNoPart, rSlS, rIxS, tBM, rAppend, tIf, rEq, rNe, scal, hIx, hIxT, hIxB, hSet, hInt, hIntB, hLen, hLenT, hLenB, L2.start, wipe, List.map_cons, List.map_nil, List.set_cons_zero, List.set_cons_succ, List.set_nil, List.length_cons, List.length_nil, List.length_map, List.cons_append, List.nil_append, List.append_nil, List.replicate, List.getElem?_cons_zero, List.getElem?_cons_succ, Option.some.injEq, V.int.injEq, V.bl.injEq, V.ref.injEq, V.str.injEq, List.cons.injEq, exists_eq_left', exists_eq_left, exists_and_left, and_assoc, upd_same, upd_upd, HO.lst.injEq, HO.tup.injEq, atI_0, atI_1, atI_2, atI_3, set_1, set_2, set_3, CDiv, CPow, CMul, List.length_set, Int.reduceToNat, Int.reduceLE, Int.reduceLT, Int.reducePow, Int.reduceNeg, Nat.reduceAdd, Nat.reduceLT, Nat.reduceLeDiff, Nat.reducePow, Nat.zero_add, or_true, true_or, gt_iff_lt, ge_iff_le, and_true, true_and, decide_eq_true_eq, if_true, Bool.false_eq_true, if_false]
      refine ite2 (fun c => ?_) fun c => ?_
      · have c : bey rows ls s0 < 0 := c
        rw [if_pos c] at key
        refine ⟨_, s2 _ _ e2, by rw [List.length_map]; exact small1000 (by omega), ?_, same_out (Same.tr s1 s2) hD⟩
        rw [key, List.map_append]
        rfl
      · have c : ¬ bey rows ls s0 < 0 := c
        rw [if_neg c, List.append_nil] at key
        rw [key]
        exact ⟨s2 _ _ e2, Same.tr s1 s2⟩
    · rintro D H' hD ⟨e2, s1⟩
      rw [kvZ_len _ _ lbz, List.take_of_length_le (Nat.le_refl _)] at e2
      have Dd : D ≠ dB := fun z => by
        rw [z, gz] at hD
        cases hD
      refine ⟨s1 _ _ gz, q D _ (unlock eB hG s1) ?_ ?_⟩
      · rw [← hG, upd_ne Dd] at hD
        exact hD
      · rw [upd_ne Dd]
        exact e2
end
end AK
set_option Elab.async false
set_option linter.all false
set_option maxRecDepth 100000
set_option maxHeartbeats 4000000
namespace AK
open PySem PySem.Spec PyProof.Rows L2
section
variable {P : Program} {w : World} {K : PySem.W.Frag} {mg : Str → Option Value} {base : Heap} {a : Ads}
def spMTig (C : Addr) : Sp := fun vs H Q _ => ∃ (m : Addr) (rows : List (List Nat)) (ls : List (Nat × Nat)), vs = [.ref m] ∧ MarAt C H m rows ls ∧ rows.length ≤ 6 ∧ ∀ D H', Same H H' → H D = none → H' D = some (.lst ((tigS rows ls).map fun s => V.str (tx s))) → Q (.ref D) H'
theorem ok_tight (T : Txt K mg a) : FnOk P w K mg base CX0 1 a.a_Margins_tight a.d_Margins_tight ["self"] (spMTig a.c_Margins) := by
  refine T.F_Margins_tight.ok sc_Margins_tight (fun vs H Q E h => ?_) (fun cdv A outer s H vs Q E hr h => ?_)
  · obtain ⟨_, _, _, rfl, _⟩ := h
    rfl
  · obtain ⟨m, rows, ls, rfl, hM, h6, q⟩ := h
    obtain ⟨dx, dS, dD, dB, as, fs, e1, l1, l2, l3, eS, las, hb, eD, eB, nf⟩ := hM.ex
    refine ⟨_, (pss_one (ps_ret (pe_lock (pe_lc (own := [("nodes", 1), ("beyond", 2)])   rfl sc_Margins_tight.nd (pi_items (pe_fld (pv 0) rfl)) (blkOk_by (own := [("nodes", 1), ("beyond", 2)]) (N := sc_Margins_tight_N) (sc := defScope s_Margins_tight) (by decide +kernel)) (fun _ _ _ _ _ => (pg_tupH (n := 2) (by rfl) (pgs_cons (pg_name (i := 1) sc_Margins_tight.nd rfl (.inl rfl)) (pgs_cons (pg_name (i := 2) sc_Margins_tight.nd rfl (.inl rfl)) pgs_nil)))) (fun _ _ _ _ _ => (pts_one (pt_cmpR op_eq (pv 2) pe_int (nomark _)))) (fun _ _ _ _ _ => (pv 1)))))), ?_⟩
    simp only [gStr2, gSeqH, tDc_c, tDGet, sDPut, rCat, tBreak, rExtend, tSeq, tAsg, tRet, tRetN, tDrop, tIfS, tNext, tNever, tOp, tUn, tVar, tC, rI0, rI, rU, tTest, tIf, tB, tAnd, tOr, tNot, tAndV, tOrV, tNotV, gName, gSub, gTupH, gCons, gNil, tYes, tCons, tNil, tLst, tTup, tCB, tCall, tMeth, tMake, tFld, sFld, tFor_c, tLc_c, iRng1, iList, iTup, iStr, iSeqB, iEnumB, tM1, tSl, tPart, tNoPart, rSlS, rIxS, tBM, rAppend, tIf, rEq, rNe, scal, hIx, hIxT, hIxB, hSet, hInt, hIntB, hLen, hLenT, hLenB, L2.start, wipe, List.map_cons, List.map_nil, List.set_cons_zero, List.set_cons_succ, List.set_nil, List.length_cons, List.length_nil, List.length_map, List.cons_append, List.nil_append, List.append_nil, List.replicate, List.getElem?_cons_zero, List.getElem?_cons_succ, Option.some.injEq, V.int.injEq, V.bl.injEq, V.ref.injEq, V.str.injEq, List.cons.injEq, exists_eq_left', exists_eq_left, exists_and_left, and_assoc, upd_same, upd_upd, HO.lst.injEq, HO.tup.injEq, atI_0, atI_1, atI_2, atI_3, set_1, set_2, set_3, CDiv, CPow, CMul, List.length_set, Int.reduceToNat, Int.reduceLE, Int.reduceLT, Int.reducePow, Int.reduceNeg, Nat.reduceAdd, Nat.reduceLT, Nat.reduceLeDiff, Nat.reducePow, Nat.zero_add, or_true, true_or, gt_iff_lt, ge_iff_le, and_true, true_and, decide_eq_true_eq, if_true, Bool.false_eq_true, if_false]
    unfold tLockE
    refine ⟨dB, _, eB, trivial, fun od => ?_⟩
    unfold iItems
    simp only [gStr2, gSeqH, tDc_c, tDGet, sDPut, rCat, tBreak, rExtend, tSeq, tAsg, tRet, tRetN, tDrop, tIfS, tNext, tNever, tOp, tUn, tVar, tC, rI0, rI, rU, tTest, tIf, tB, tAnd, tOr, tNot, tAndV, tOrV, tNotV, gName, gSub, gTupH, gCons, gNil, tYes, tCons, tNil, tLst, tTup, tCB, tCall, tMeth, tMake, tFld, sFld, tFor_c, tLc_c, iRng1, iList, iTup, iStr, iSeqB, iEnumB, tM1, tSl, tPart, tNoPart, rSlS, rIxS, tBM, rAppend, tIf, rEq, rNe, scal, hIx, hIxT, hIxB, hSet, hInt, hIntB, hLen, hLenT, hLenB, L2.start, wipe, List.map_cons, List.map_nil, List.set_cons_zero, List.set_cons_succ, List.set_nil, List.length_cons, List.length_nil, List.length_map, List.cons_append, List.nil_append, List.append_nil, List.replicate, List.getElem?_cons_zero, List.getElem?_cons_succ, Option.some.injEq, V.int.injEq, V.bl.injEq, V.ref.injEq, V.str.injEq, List.cons.injEq, exists_eq_left', exists_eq_left, exists_and_left, and_assoc, upd_same, upd_upd, HO.lst.injEq, HO.tup.injEq, atI_0, atI_1, atI_2, atI_3, set_1, set_2, set_3, CDiv, CPow, CMul, List.length_set, Int.reduceToNat, Int.reduceLE, Int.reduceLT, Int.reducePow, Int.reduceNeg, Nat.reduceAdd, Nat.reduceLT, Nat.reduceLeDiff, Nat.reducePow, Nat.zero_add, or_true, true_or, gt_iff_lt, ge_iff_le, and_true, true_and, decide_eq_true_eq, if_true, Bool.false_eq_true, if_false]
    have mB : m ≠ dB := fun z => by
      rw [z, eB] at e1
      cases e1
    have lbz : (osets rows.length).length = ((osets rows.length).map fun s => V.int (bey rows ls s)).length := by rw [List.length_map]
    have gz : upd H dB (.frz od (.dK (kvZ (osets rows.length) ((osets rows.length).map fun s => V.int (bey rows ls s))))) dB = some (.frz od (.dK (kvZ (osets rows.length) ((osets rows.length).map fun s => V.int (bey rows ls s))))) := upd_same
    have mG : upd H dB (.frz od (.dK (kvZ (osets rows.length) ((osets rows.length).map fun s => V.int (bey rows ls s))))) m = some (.ins a.c_Margins dx fs) := by
      rw [upd_ne mB]
      exact e1
    have l63 := (osets_ord h6).2.1
    generalize hG : upd H dB (.frz od (.dK (kvZ (osets rows.length) ((osets rows.length).map fun s => V.int (bey rows ls s))))) = G at gz mG
    refine ⟨a.c_Margins, dx, fs, mG, T.C_Margins, T.n_Margins_beyond, _, l3, dB, rfl, od, _, gz, ?_⟩
    refine lcItems (fun i D H' => H' D = some (.lst ((((osets rows.length).take i).filter fun s => decide (bey rows ls s = 0)).map fun s => V.str (tx s))) ∧ Same G H') (fun D hD => ⟨upd_same, same_new hD⟩) (fun i D H' _ z => z.2 _ _ gz) ?_ ?_
    · rintro i k x t D H' hD hx ⟨e2, s1⟩ ht
      have hi : i < (osets rows.length).length := by
        have := (List.getElem?_eq_some_iff.mp hx).1
        rwa [kvZ_len _ _ lbz] at this
      have hs0 : (osets rows.length)[i]? = some (osets rows.length)[i] := List.getElem?_eq_getElem hi
      rw [kvZ_at _ _ i hs0 (by rw [List.getElem?_map, hs0]; rfl)] at hx
      obtain ⟨rfl, rfl⟩ := Prod.mk.inj (Option.some.inj hx)
      generalize (osets rows.length)[i] = s0 at hs0
      have s2 := same_new (o := .tup [kV (.inr (tx s0)), V.int (bey rows ls s0)]) ht
      have lnow : (((osets rows.length).take i).filter fun s => decide (bey rows ls s = 0)).length ≤ 63 := by
        refine Nat.le_trans (List.length_filter_le _ _) ?_
        rw [List.length_take]
        omega
      have key : ((osets rows.length).take (i + 1)).filter (fun s => decide (bey rows ls s = 0)) = ((osets rows.length).take i).filter (fun s => decide (bey rows ls s = 0)) ++ if bey rows ls s0 = 0 then [s0] else [] := by
        rw [take_s hs0, List.filter_append, List.filter_cons]
        by_cases c : bey rows ls s0 = 0
        · rw [if_pos (decide_eq_true c), if_pos c]
          rfl
        · rw [if_neg (by rw [decide_eq_false c]; decide), if_neg c]
          rfl
      refine ⟨t, _, rfl, upd_same, rfl, ?_⟩
      simp only [gStr2, gSeqH, tDc_c, tDGet, sDPut, rCat, tBreak, rExtend, tSeq, tAsg, tRet, tRetN, tDrop, tIfS, tNext, tNever, tOp, tUn, tVar, tC, rI0, rI, rU, tTest, tIf, tB, tAnd, tOr, tNot, tAndV, tOrV, tNotV, gName, gSub, gTupH, gCons, gNil, tYes, tCons, tNil, tLst, tTup, tCB, tCall, tMeth, tMake, tFld, sFld, tFor_c, tLc_c, iRng1, iList, iTup, iStr, iSeqB, iEnumB, tM1, tSl, tPart, tNoPart, rSlS, rIxS, tBM, rAppend, tIf, rEq, rNe, scal, hIx, hIxT, hIxB, hSet, hInt, hIntB, hLen, hLenT, hLenB, L2.start, wipe, List.map_cons, List.map_nil, List.set_cons_zero, List.set_cons_succ, List.set_nil, List.length_cons, List.length_nil, List.length_map, List.cons_append, List.nil_append, List.append_nil, List.replicate, List.getElem?_cons_zero, List.getElem?_cons_succ, Option.some.injEq, V.int.injEq, V.bl.injEq, V.ref.injEq, V.str.injEq, List.cons.injEq, exists_eq_left', exists_eq_left, exists_and_left, and_assoc, upd_same, upd_upd, HO.lst.injEq, HO.tup.injEq, atI_0, atI_1, atI_2, atI_3, set_1, set_2, set_3, CDiv, CPow, CMul, List.length_set, Int.reduceToNat, Int.reduceLE, Int.reduceLT, Int.reducePow, Int.reduceNeg, Nat.reduceAdd, Nat.reduceLT, Nat.reduceLeDiff, Nat.reducePow, Nat.zero_add, or_true, true_or, gt_iff_lt, ge_iff_le, and_true, true_and, decide_eq_true_eq, if_true, Bool.false_eq_true, if_false]
      refine ite2 (fun c => ?_) fun c => ?_
      · have c : bey rows ls s0 = 0 := c
        rw [if_pos c] at key
        refine ⟨_, s2 _ _ e2, by rw [List.length_map]; exact small1000 (by omega), ?_, same_out (Same.tr s1 s2) hD⟩
        rw [key, List.map_append]
        rfl
      · have c : ¬ bey rows ls s0 = 0 := c
        rw [if_neg c, List.append_nil] at key
        rw [key]
        exact ⟨s2 _ _ e2, Same.tr s1 s2⟩
    · rintro D H' hD ⟨e2, s1⟩
      rw [kvZ_len _ _ lbz, List.take_of_length_le (Nat.le_refl _)] at e2
      have Dd : D ≠ dB := fun z => by
        rw [z, gz] at hD
        cases hD
      refine ⟨s1 _ _ gz, q D _ (unlock eB hG s1) ?_ ?_⟩
      · rw [← hG, upd_ne Dd] at hD
        exact hD
      · rw [upd_ne Dd]
        exact e2
end
end AK
set_option Elab.async false
set_option linter.all false
set_option maxRecDepth 100000
set_option maxHeartbeats 4000000
namespace AK
open PySem PySem.Spec PyProof.Rows L2
section
variable {P : Program} {w : World} {K : PySem.W.Frag} {mg : Str → Option Value} {base : Heap} {a : Ads}
def spMof (C CM : Addr) : Sp := fun vs H Q _ => ∃ (p : Addr) (n : Nat) (rows : List (List Nat)) (ls : List (Nat × Nat)), vs = [.ref p] ∧ NetN C H p n rows ls ∧ OkR n rows ls ∧ ∀ m H', Same H H' → H m = none → MarAt CM H' m rows ls → Q (.ref m) H'
theorem ok_margins_of (T : Txt K mg a) : FnOk P w K mg base CX0 8 a.a_margins_of a.d_margins_of ["network"] (spMof a.c_Network a.c_Margins) := by
  have G_first_spans := ok_first_spans (P := P) (w := w) (base := base) T
  have G_Margins_init := ok_Margins (P := P) (w := w) (base := base) T
  refine T.F_margins_of.ok sc_margins_of (fun vs H Q E h => ?_) (fun cdv A outer s H vs Q E hr h => ?_)
  · obtain ⟨_, _, _, _, rfl, _⟩ := h
    rfl
  · obtain ⟨p, n, rows, ls, rfl, hN, ok, q⟩ := h
    obtain ⟨dx, tn, tl, as, fs, h1, h2, h3, h4, h5, h6, h7, h8, h9, h10, h11, h12⟩ := hN.ex
    refine ⟨_, (pss_one (ps_ret (pe_make T.K_Margins G_Margins_init (hr.mono (by first | decide | exact Nat.le_refl _ | omega)) (by rfl) T.g_Margins T.b_Margins_init .nil pass0 (pa_cons (pe_call G_first_spans (hr.mono (by first | decide | exact Nat.le_refl _ | omega)) (by rfl) T.g_first_spans T.F_first_spans.kp T.b_first_spans .nil pass0 (pa_cons (pv 0) pa_nil)) (pa_cons (pe_fld (pv 0) rfl) pa_nil))))), ?_⟩
    simp only [gStr2, gSeqH, tDc_c, tDGet, sDPut, rCat, tBreak, rExtend, tSeq, tAsg, tRet, tRetN, tDrop, tIfS, tNext, tNever, tOp, tUn, tVar, tC, rI0, rI, rU, tTest, tIf, tB, tAnd, tOr, tNot, tAndV, tOrV, tNotV, gName, gSub, gTupH, gCons, gNil, tYes, tCons, tNil, tLst, tTup, tCB, tCall, tMeth, tMake, tFld, sFld, tFor_c, tLc_c, iRng1, iList, iTup, iStr, iSeqB, iEnumB, tM1, tSl, tPart, tNoPart, rSlS, rIxS, tBM, rAppend, tIf, rEq, rNe, scal, hIx, hIxT, hIxB, hSet, hInt, hIntB, hLen, hLenT, hLenB, L2.start, wipe, List.map_cons, List.map_nil, List.set_cons_zero, List.set_cons_succ, List.set_nil, List.length_cons, List.length_nil, List.length_map, List.cons_append, List.nil_append, List.append_nil, List.replicate, List.getElem?_cons_zero, List.getElem?_cons_succ, Option.some.injEq, V.int.injEq, V.bl.injEq, V.ref.injEq, V.str.injEq, List.cons.injEq, exists_eq_left', exists_eq_left, exists_and_left, and_assoc, upd_same, upd_upd, HO.lst.injEq, HO.tup.injEq, atI_0, atI_1, atI_2, atI_3, set_1, set_2, set_3, CDiv, CPow, CMul, List.length_set, Int.reduceToNat, Int.reduceLE, Int.reduceLT, Int.reducePow, Int.reduceNeg, Nat.reduceAdd, Nat.reduceLT, Nat.reduceLeDiff, Nat.reducePow, Nat.zero_add, or_true, true_or, gt_iff_lt, ge_iff_le, and_true, true_and, decide_eq_true_eq, if_true, Bool.false_eq_true, if_false]
    refine ⟨p, n, rows, ls, rfl, hN, ok, fun D0 H1 s1 nD0 A0 => ⟨a.c_Network, _, fs, s1 _ _ h1, T.C_Network, T.n_Network_links, _, h4, fun m dx2 hm hdx2 hne => ?_⟩⟩
    have s0 : Same H1 (upd (upd H1 dx2 (.own m)) m (.ins a.c_Margins dx2 [])) := fun b o e => by
      rw [upd_ne (ne_of_none e hm), upd_ne (ne_of_none e hdx2)]
      exact e
    refine ⟨m, dx2, D0, tl, rows, ls, rfl, upd_same, A0.same s0, ok.r1, ok.r2, fun r hr => (ok.m r hr).1, .inr (by rw [lks_strs]; exact s0 _ _ (s1 _ _ h10)), ok.l, fun H' k hMar => ⟨rfl, q m H' (fun b o e => ?_) (s1.free hm) hMar⟩⟩
    have e1 := s1 _ _ e
    exact k b o (ne_of_none e1 hm) (s0 _ _ e1)
end
end AK
set_option Elab.async false
set_option linter.all false
set_option maxRecDepth 100000
set_option maxHeartbeats 4000000
namespace AK
open PySem PySem.Spec PyProof.Rows L2
section
variable {P : Program} {w : World} {K : PySem.W.Frag} {mg : Str → Option Value} {base : Heap} {a : Ads}
def spReq (C CS : Addr) : Sp := fun vs H Q E => ∃ (p : Addr) (n : Nat) (rows : List (List Nat)) (ls : List (Nat × Nat)) (s : List Nat), vs = [.ref p, .str (tx s)] ∧ NetN C H p n rows ls ∧ OkR n rows ls ∧ s.length ≤ 6 ∧ (∀ c ∈ s, c < 1000) ∧
  (s ≠ [] → asc (AN.take rows.length) s = true → ∀ H', Same H H' → Q .non H') ∧ (s = [] ∨ asc (AN.take rows.length) s = false → ∀ H', Same H H' → E (.ref CS) none H')
theorem ok_require_set (T : Txt K mg a) : FnOk P w K mg base (L2.CX P w) 4 a.a_require_set a.d_require_set ["network", "nodes"] (spReq a.c_Network a.c_NoSet) := by
  have G_Network_node_letters := ok_node_letters (P := P) (w := w) (base := base) T
  have G_is_ascending := ok_is_ascending (P := P) (w := w) (base := base) T
  refine T.F_require_set.okX sc_require_set (fun vs H Q E h => ?_) (fun cdv A outer s H vs Q E hr h => ?_)
  · obtain ⟨_, _, _, _, _, rfl, _⟩ := h
    rfl
  · obtain ⟨p, n, rows, ls, s0, rfl, hN, ok, hl, hc, q1, q2⟩ := h
    refine ⟨_, (pss_one (ps_if (PW.pt (pw_or (pt_cmpR op_eq (pv 1) pe_str (nomark _)) (pw_or1 (pt_not (pt_val (pe_call G_is_ascending (hr.mono (by first | decide | exact Nat.le_refl _ | omega)) (by rfl) T.g_is_ascending T.F_is_ascending.kp T.b_is_ascending .nil pass0 (pa_cons (pe_meth0 (pv 0) T.C_Network T.M_Network_node_letters G_Network_node_letters (hr.mono (by first | decide | exact Nat.le_refl _ | omega)) T.b_Network_node_letters .nil pass0) (pa_cons (pv 1) pa_nil))))))))
      (pss_one (ps_raise rfl (takes_of rfl rfl rfl rfl) (SkE.pmk_own1 PySem.F.excBase_ValueError T.N_NoSet T.g_NoSet T.X_NoSet.kp T.X_NoSet.raises (by rfl) (pe_joined (PJ.cons pe_str (PJ.cons (pe_fmt (pe_meth0 (pv 0) T.C_Network T.M_Network_node_letters G_Network_node_letters (hr.mono (by first | decide | exact Nat.le_refl _ | omega)) T.b_Network_node_letters .nil pass0)) (PJ.cons pe_str (PJ.cons (pe_fmtR (pv 1)) PJ.nil))))))))
      pss_nil)), ?_⟩
    simp only [gStr2, gSeqH, tDc_c, tDGet, sDPut, rCat, tBreak, rExtend, tSeq, tAsg, tRet, tRetN, tDrop, tIfS, tNext, tNever, tOp, tUn, tVar, tC, rI0, rI, rU, tTest, tIf, tB, tAnd, tOr, tNot, tAndV, tOrV, tNotV, gName, gSub, gTupH, gCons, gNil, tYes, tCons, tNil, tLst, tTup, tCB, tCall, tMeth, tMake, tFld, sFld, tFor_c, tLc_c, iRng1, iList, iTup, iStr, iSeqB, iEnumB, tM1, tSl, tPart, tNoPart, rSlS, rIxS, tBM, rAppend, tIf, rEq, rNe, scal, hIx, hIxT, hIxB, hSet, hInt, hIntB, hLen, hLenT, hLenB, L2.start, wipe, List.map_cons, List.map_nil, List.set_cons_zero, List.set_cons_succ, List.set_nil, List.length_cons, List.length_nil, List.length_map, List.cons_append, List.nil_append, List.append_nil, List.replicate, List.getElem?_cons_zero, List.getElem?_cons_succ, Option.some.injEq, V.int.injEq, V.bl.injEq, V.ref.injEq, V.str.injEq, List.cons.injEq, exists_eq_left', exists_eq_left, exists_and_left, and_assoc, upd_same, upd_upd, HO.lst.injEq, HO.tup.injEq, atI_0, atI_1, atI_2, atI_3, set_1, set_2, set_3, CDiv, CPow, CMul, List.length_set, Int.reduceToNat, Int.reduceLE, Int.reduceLT, Int.reducePow, Int.reduceNeg, Nat.reduceAdd, Nat.reduceLT, Nat.reduceLeDiff, Nat.reducePow, Nat.zero_add, or_true, true_or, gt_iff_lt, ge_iff_le, and_true, true_and, decide_eq_true_eq, if_true, Bool.false_eq_true, if_false]
    obtain ⟨dx, tn, tl, as, fs, h1, h2, h3, h4, h5, hN'⟩ := hN.ex
    have r6 := ok.r2
    have lz : ((rows.map fun r => r.map pt).length) = rows.length := List.length_map _
    have out : ∀ H1, Same H H1 → (s0 = [] ∨ asc (AN.take rows.length) s0 = false) → tJs [tC (V.str (Str.ofString "no set of nodes of ")), tFmt (tMeth a.c_Network (Str.ofString "node_letters") (spNL a.c_Network) [] E0 (tVar 0) tNil), tC (V.str (Str.ofString ": ")), tFmtR (tVar 1)] Str.empty (some (V.ref p) :: some (V.str (tx s0)) :: List.replicate (2 - 2) none) H1 fun out H1 => E (Value.ref a.c_NoSet) none H1 := by
      intro H1 s1 hb
      have l1 : (Str.empty ++ (Str.ofString "no set of nodes of ")).length = 19 := by decide +kernel
      have la : ∀ y z : Str, (y ++ z).length = y.length + z.length := fun y z => by
        show (y.cps ++ z.cps).size = _
        rw [Array.size_append]
        rfl
      have l2 : (Str.ofString ": ").length = 2 := by decide +kernel
      have lr : (reprText (tx s0)).length ≤ 10 * (tx s0).length + 2 := StrLaws.reprText_len (tx s0) fun c hc' => Nat.lt_of_lt_of_le (hc c hc') (by decide)
      have lx : (tx s0).length = s0.length := len_tx s0
      have ll : (tx (AN.take rows.length)).length ≤ 26 := by
        rw [len_tx, List.length_take, AN_len]
        omega
      refine ⟨_, rfl, by rw [l1]; exact sizeLe (by omega), ?_⟩
      have rr : s0.length ≤ 6 := hl
      refine ⟨_, rfl, p, dx, fs, rfl, s1 _ _ h1, h5, p, n, _, _, rfl, hN.same s1, .inl ⟨_, rfl, by rw [lz]; exact sizeLe (by omega), ?_⟩⟩
      rw [lz]
      refine ⟨_, rfl, by rw [la, l1]; exact sizeLe (by omega), ?_⟩
      refine ⟨_, rfl, by rw [la, la, l1, l2]; exact sizeLe (by omega), ?_⟩
      refine ⟨_, rfl, .inl ⟨_, rfl, Nat.le_trans (show _ ≤ 1002 by omega) (by decide), ?_⟩⟩
      refine ⟨_, rfl, by rw [la, la, la, l1, l2]; exact Nat.le_trans (show _ ≤ 2000 by omega) (by decide), ?_⟩
      exact q2 hb H1 s1
    have sne : s0 ≠ [] → tx s0 ≠ Str.ofString "" := fun h z => h (by
      have := congrArg (fun s : Str => s.length) z
      rw [len_tx] at this
      exact List.length_eq_zero_iff.mp (this.trans (by decide +kernel)))
    refine ite2 (fun c => ?_) fun c => ?_
    · exact out H (Same.refl _) (.inl (Classical.byContradiction fun z => sne z c))
    · have s00 : s0 ≠ [] := fun z => c (by rw [z]; decide +kernel)
      refine ⟨dx, fs, h1, h5, p, n, _, _, rfl, hN, ?_⟩
      rw [lz]
      refine ⟨tx (AN.take rows.length), tx s0, rfl, by rw [len_tx, List.length_take]; omega, fun H1 s1 => ⟨_, rfl, ?_⟩⟩
      show if (!asc (AN.take rows.length) s0) = true then _ else _
      cases ha : asc (AN.take rows.length) s0 with
      | true => exact q1 s00 ha H1 s1
      | false => exact out H1 s1 (.inr ha)
end
end AK
set_option Elab.async false
set_option linter.all false
set_option maxRecDepth 100000
set_option maxHeartbeats 4000000
namespace AK
open PySem PySem.Spec PyProof.Rows L2
theorem ascV_all : (List.range 7).all (fun n => (List.range (2 ^ n)).all fun m => asc (AV.take n) (pl m)) = true := by decide +kernel
theorem ascV {n m : Nat} (hn : n ≤ 6) (hm : m < 2 ^ n) : asc (AV.take n) (pl m) = true := List.all_eq_true.mp (List.all_eq_true.mp ascV_all n (List.mem_range.mpr (by omega))) m (List.mem_range.mpr hm)
theorem lt64 {n m : Nat} (hn : n ≤ 6) (hm : m < 2 ^ n) : m < 64 := Nat.lt_of_lt_of_le hm (Nat.pow_le_pow_right (n := 2) (by decide) hn)
theorem Wrong.no {n : Int} {rows : List (List Str)} {links : List Str} {v1 v2 v3 : V} (h : Wrong n rows links v1 v2 v3) (r : Right n rows links) : False := by
  have h0 := r.h0
  have h1 := r.h1
  have h3 := r.h3
  cases h with
  | vars h => omega
  | nodes _ h => omega
  | row _ _ hi ok b =>
    rw [r.h2 _ (List.mem_of_getElem? hi)] at b
    cases b
  | links _ _ _ h => omega
  | link _ _ _ _ hi ok b =>
    rw [r.h4 _ (List.mem_of_getElem? hi)] at b
    cases b
theorem Pool.at {G H : Hp} {p : Addr} (h : Pool G H p) : ∃ c, PoolAt H p c := by
  obtain ⟨c, cells, i, d, x, e1, e2, e3⟩ := h.ex
  exact ⟨c, ne_of_none e2 h.out, cells, i, d, x, e1, h.le _ _ e2, e3⟩
theorem NetAt.off1 {C : Addr} {H H' : Hp} {nw p c : Addr} {n : Int} {rows : List (List Str)} {links : List Str} (h : NetAt C H nw n rows links) (k : PoolAt H p c) (s : Off1 p H H') : NetAt C H' nw n rows links := by
  obtain ⟨dx, tn, tl, as, fs, h1, h2, h3, h4, h5, h6, h7, h8, h9, h10, h11, h12⟩ := h.ex
  obtain ⟨_, _, _, _, e1, _⟩ := k.ex
  have ni : ∀ {b : Addr} {C d : Addr} {f : List (Str × V)}, H b = some (.ins C d f) → b ≠ p := fun e z => by
    rw [z, e1] at e
    cases e
  have nt : ∀ {b : Addr} {xs : List V}, H b = some (.tup xs) → b ≠ p := fun e z => by
    rw [z, e1] at e
    cases e
  exact ⟨dx, tn, tl, as, fs, s _ _ (ni h1) h1, h2, h3, h4, h5, h6, h7, h8, s _ _ (nt h9) h9, s _ _ (nt h10) h10, h11, fun i r t x y => s _ _ (nt (h12 i r t x y)) (h12 i r t x y)⟩
/-- all is kept but tables -/
def KeepD (H H' : Hp) : Prop := ∀ b o, (∀ ps, o ≠ .tbl ps) → H b = some o → H' b = some o
theorem KeepD.of {tb : Addr} {H H' : Hp} (h : GxR.TabG H tb) (k : ∀ b o, b ≠ tb → H b = some o → H' b = some o) : KeepD H H' := fun b o n e => k b o (fun z => by
  obtain ⟨ps, e2, _⟩ := h
  rw [z, e2] at e
  exact n ps (Option.some.inj e).symm) e
theorem PoolAt.keepD {H H' : Hp} {p c : Addr} (h : PoolAt H p c) (k : KeepD H H') : PoolAt H' p c := by
  obtain ⟨cells, i, d, x, e1, e2, e3⟩ := h.ex
  exact ⟨h.ne, cells, i, d, x, k _ _ (fun _ z => by cases z) e1, k _ _ (fun _ z => by cases z) e2, e3⟩
theorem RowsL.keepD {H H' : Hp} {p : Addr} {rows : List (List V)} (h : RowsL H p rows) (k : KeepD H H') : RowsL H' p rows := by
  obtain ⟨as, e1, e2, e3, e4⟩ := h.ex
  exact ⟨as, k _ _ (fun _ z => by cases z) e1, e2, e3, fun i r t w1 w2 => k _ _ (fun _ z => by cases z) (e4 i r t w1 w2)⟩
theorem DNet.keepD {H H' : Hp} {d : Addr} {n : Nat} {rows : List (List Nat)} {ls : List (Nat × Nat)} (h : DNet H d n rows ls) (k : KeepD H H') : DNet H' d n rows ls := by
  obtain ⟨an, al, e1, e2, e3⟩ := h.ex
  exact ⟨an, al, k _ _ (fun _ z => by cases z) e1, e2.keepD k, k _ _ (fun _ z => by cases z) e3⟩
theorem right_of {n : Nat} {rows : List (List Nat)} {ls : List (Nat × Nat)} {nodes links : Nat} (ok : OkN n rows ls nodes links) (h6 : nodes ≤ 6) (h16 : links ≤ 16) : Right (n : Int) (rows.map fun r => r.map pt) (ls.map lkt) := by
  have v := ok.v
  have r1 := ok.r1
  have r2 := ok.r2
  have l := ok.l
  refine ⟨by omega, by rw [List.length_map]; omega, fun r hr => ?_, by rw [List.length_map]; omega, fun x hx => ?_⟩
  · obtain ⟨r0, h0, rfl⟩ := List.mem_map.mp hr
    obtain ⟨m1, m2⟩ := ok.m r0 h0
    unfold rowBad
    rw [if_neg (by rw [List.length_map]; omega), if_pos]
    rw [List.all_eq_true]
    intro x hx
    obtain ⟨m, hm, rfl⟩ := List.mem_map.mp hx
    obtain ⟨q1, q2⟩ := m2 m hm
    unfold isMsg
    rw [Int.toNat_natCast, show lt (pt m) = pl m from rfl, ascV (by omega) q2, Bool.and_true, decide_eq_false, Bool.not_false]
    intro z
    rw [pt0] at z
    have := pt_inj (by have := lt64 (show n ≤ 6 by omega) q2; omega) (by decide) z
    omega
  · obtain ⟨l0, h0, rfl⟩ := List.mem_map.mp hx
    obtain ⟨k1, k2, k3⟩ := ok.k l0 h0
    rw [List.length_map]
    show isLnk _ [65 + l0.1, 65 + l0.2] = true
    have hm : ∀ i, i < rows.length → 65 + i ∈ AN.take rows.length := fun i hi => List.mem_of_getElem? (ANt_at hi (by omega))
    show (!decide (65 + l0.1 = 65 + l0.2) && (decide (65 + l0.1 ∈ AN.take (rows.length : Int).toNat) && decide (65 + l0.2 ∈ AN.take (rows.length : Int).toNat))) = true
    rw [Int.toNat_natCast, decide_eq_true (hm _ k1), decide_eq_true (hm _ k2), decide_eq_false (by omega)]
    rfl
theorem okR_of {n : Nat} {rows : List (List Nat)} {ls : List (Nat × Nat)} {nodes links : Nat} (ok : OkN n rows ls nodes links) (h6 : nodes ≤ 6) (h16 : links ≤ 16) : OkR n rows ls := by
  have v := ok.v
  have r2 := ok.r2
  have l := ok.l
  exact ⟨by omega, ok.r1, by omega, fun r hr => ⟨(ok.m r hr).1, fun m hm => lt64 (by omega) ((ok.m r hr).2 m hm).2⟩, by omega, ok.k⟩
/-! ### the law's numbers are the program's -/
theorem osets_pick_all : (List.range 7).all (fun n => (osets n).all fun s => (List.range n).filter (fun k => decide (65 + k ∈ s)) == s.map (· - 65)) = true := by decide +kernel
theorem msOf_set {rows : List (List Nat)} (h : rows.length ≤ 6) {s : List Nat} (hs : s ∈ osets rows.length) : msOf rows s = s.flatMap fun c => rows.getD (c - 65) [] := by
  have e := eq_of_beq (List.all_eq_true.mp (List.all_eq_true.mp osets_pick_all rows.length (List.mem_range.mpr (by omega))) s hs)
  unfold msOf
  rw [e, List.flatMap_map]
theorem msOf_top {rows : List (List Nat)} (h : rows.length ≤ 6) : msOf rows (AN.take rows.length) = msOf rows (AN.take 6) := by
  unfold msOf
  congr 1
  refine List.filter_congr fun k hk => ?_
  have hk := List.mem_range.mp hk
  rw [decide_eq_true (List.mem_of_getElem? (ANt_at hk (by omega))), decide_eq_true (List.mem_of_getElem? (ANt_at (show k < 6 by omega) (by decide)))]
theorem dmd_eq {rows : List (List Nat)} (h : rows.length ≤ 6) (h1 : 1 ≤ rows.length) {s : List Nat} (hs : s ∈ osets rows.length) : dmd rows s = demand rows s := by
  unfold dmd demand
  rw [spanOf_len, spanOf_len, ← msOf_set h hs, ← msOf_set h (osets_top h h1), msOf_top h, msOf_all h]
theorem entL_eq (ls : List (Nat × Nat)) (s : List Nat) : entL ls s = ents ls s := by
  unfold entL ents
  refine List.filter_congr fun k _ => ?_
  show _ = entl s _
  unfold entl
  rw [Bool.and_comm]
end AK
set_option Elab.async false
set_option linter.all false
set_option maxRecDepth 100000
set_option maxHeartbeats 4000000
namespace AK
open PySem PySem.Spec PyProof.Rows L2
theorem iteT' {p : Prop} [Decidable p] {A B : Prop} (h : p) (b : A) : if p then A else B := by
  rw [if_pos h]
  exact b
theorem iteF' {p : Prop} [Decidable p] {A B : Prop} (h : ¬ p) (b : B) : if p then A else B := by
  rw [if_neg h]
  exact b
/-! ### sets of nodes: what enters them, what they lack -/
theorem sub_fnd : ∀ (n : Nat) (l : List Nat), l.Sublist ((List.range n).map (65 + ·)) → l ∈ fnd n
  | 0, l, h => by
    rw [List.range_zero, List.map_nil] at h
    rw [List.sublist_nil.mp h]
    exact List.mem_singleton.mpr rfl
  | n + 1, l, h => by
    rw [List.range_succ, List.map_append, List.sublist_append_iff] at h
    obtain ⟨l1, l2, rfl, h1, h2⟩ := h
    have ih := sub_fnd n l1 h1
    rw [fnd_succ, List.mem_append]
    match l2, h2 with
    | [], _ => exact .inl (by rw [List.append_nil]; exact ih)
    | [x], h2 =>
      have e : x = 65 + n := List.mem_singleton.mp (h2.subset List.mem_cons_self)
      exact .inr (List.mem_map.mpr ⟨l1, ih, by rw [e]⟩)
    | x :: y :: l3, h2 => exact absurd h2.length_le (by simp)
theorem osets_of {n : Nat} (h : n ≤ 6) {l : List Nat} (h0 : l ≠ []) (hs : l.Sublist (AN.take n)) : l ∈ osets n := by
  have z := List.all_eq_true.mp osets_all n (List.mem_range.mpr (by omega))
  rw [Bool.and_eq_true] at z
  refine (List.isPerm_iff.mp z.1).mem_iff.mp (List.mem_filter.mpr ⟨sub_fnd n l ?_, ?_⟩)
  · rw [← AN_rng h] at hs
    simpa using hs
  · cases l with
    | nil => exact absurd rfl h0
    | cons x l => rfl
theorem asc_all : (List.range 7).all (fun n => (osets n).all fun s => asc (AN.take n) s) = true := by decide +kernel
theorem asc_of {n : Nat} (h : n ≤ 6) {s : List Nat} (h0 : s ≠ []) (hs : s.Sublist (AN.take n)) : asc (AN.take n) s = true := List.all_eq_true.mp (List.all_eq_true.mp asc_all n (List.mem_range.mpr (by omega))) s (osets_of h h0 hs)
section
variable {P : Program} {w : World} {K : PySem.W.Frag} {mg : Str → Option Value} {base : Heap} {a : Ads}
def spPickS : Sp := fun vs H Q _ => ∃ (p c : Addr) (l : List Nat), vs = [.ref p, .str (tx l)] ∧ PoolAt H p c ∧ l ≠ [] ∧ l.length ≤ 900 ∧ ∀ x H', x ∈ l → Off1 p H H' → PoolAt H' p c → Q (.str (tx [x])) H'
theorem ok_law_pick_s (T : Txt K mg a) : FnOk P w K mg base CX0 3 a.a_law_pick a.d_law_pick ["pool", "rows"] spPickS := by
  have G_law_take := ok_law_take (P := P) (w := w) (base := base) T
  refine T.F_law_pick.ok sc_law_pick (fun vs H Q E h => ?_) (fun cdv A outer s H vs Q E hr h => ?_)
  · obtain ⟨_, _, _, rfl, _⟩ := h
    rfl
  · obtain ⟨p, c, l, rfl, hP, h0, hl, q⟩ := h
    refine ⟨_, (pss_one (ps_ret (pe_ix ix_str (pv 1) (pe_call G_law_take (hr.mono (by first | decide | exact Nat.le_refl _ | omega)) (by rfl) T.g_law_take T.F_law_take.kp T.b_law_take .nil pass0 (pa_cons (pv 0) (pa_cons (pe_callB call_len_str (by rfl) T.z_len PySem.boot_len (pa_cons (pv 1) pa_nil)) pa_nil))) (fun _ _ => rfl)))), ?_⟩
    simp only [gStr2, gSeqH, tDc_c, tDGet, sDPut, rCat, tBreak, rExtend, tSeq, tAsg, tRet, tRetN, tDrop, tIfS, tNext, tNever, tOp, tUn, tVar, tC, rI0, rI, rU, tTest, tIf, tB, tAnd, tOr, tNot, tAndV, tOrV, tNotV, gName, gSub, gTupH, gCons, gNil, tYes, tCons, tNil, tLst, tTup, tCB, tCall, tMeth, tMake, tFld, sFld, tFor_c, tLc_c, iRng1, iList, iTup, iStr, iSeqB, iEnumB, tM1, tSl, tPart, tNoPart, rSlS, rIxS, tBM, rAppend, tIf, rEq, rNe, scal, hIx, hIxT, hIxB, hSet, hInt, hIntB, hLen, hLenT, hLenB, L2.start, wipe, List.map_cons, List.map_nil, List.set_cons_zero, List.set_cons_succ, List.set_nil, List.length_cons, List.length_nil, List.length_map, List.cons_append, List.nil_append, List.append_nil, List.replicate, List.getElem?_cons_zero, List.getElem?_cons_succ, Option.some.injEq, V.int.injEq, V.bl.injEq, V.ref.injEq, V.str.injEq, List.cons.injEq, exists_eq_left', exists_eq_left, exists_and_left, and_assoc, upd_same, upd_upd, HO.lst.injEq, HO.tup.injEq, atI_0, atI_1, atI_2, atI_3, set_1, set_2, set_3, CDiv, CPow, CMul, List.length_set, Int.reduceToNat, Int.reduceLE, Int.reduceLT, Int.reducePow, Int.reduceNeg, Nat.reduceAdd, Nat.reduceLT, Nat.reduceLeDiff, Nat.reducePow, Nat.zero_add, or_true, true_or, gt_iff_lt, ge_iff_le, and_true, true_and, decide_eq_true_eq, if_true, Bool.false_eq_true, if_false]
    have hpos : 0 < l.length := List.length_pos_iff.mpr h0
    have lz : (tx l).length = l.length := len_tx l
    rw [lz]
    refine ⟨sizeLe (by omega), take_pool hP (by omega) (by omega) fun d H1 d0 d1 k1 _ p1 => ?_⟩
    obtain ⟨j, rfl⟩ := Int.eq_ofNat_of_zero_le d0
    have hj : j < l.length := by omega
    exact ⟨_, rfl, sizeLe (by omega), l[j], atI_nat (List.getElem?_eq_getElem hj), q _ H1 (List.getElem_mem _) k1 p1⟩
def spTarg : Sp := fun vs H Q _ => ∃ (p c d : Addr) (n : Nat) (rows : List (List Nat)) (ls : List (Nat × Nat)), vs = [.ref p, .ref d] ∧ PoolAt H p c ∧ DNet H d n rows ls ∧ rows.length ≤ 6 ∧ 1 ≤ rows.length ∧ ∀ s H', s ≠ [] → s.Sublist (AN.take rows.length) → Off1 p H H' → PoolAt H' p c → Q (.str (tx s)) H'
theorem ok_law_targets (T : Txt K mg a) : FnOk P w K mg base CX0 4 a.a_law_targets a.d_law_targets ["pool", "network"] spTarg := by
  have G_law_take := ok_law_take (P := P) (w := w) (base := base) T
  have G_law_pick_s := ok_law_pick_s (P := P) (w := w) (base := base) T
  refine T.F_law_targets.ok sc_law_targets (fun vs H Q E h => ?_) (fun cdv A outer s H vs Q E hr h => ?_)
  · obtain ⟨_, _, _, _, _, _, rfl, _⟩ := h
    rfl
  · obtain ⟨p, c, d, n, rows, ls, rfl, p0, hN, r6, r1, q⟩ := h
    refine ⟨_, (pss_cons (ps_set (i := 2) sc_law_targets.nd rfl (.inl rfl) (pe_slice sl_str pe_str po_none (po_some (pe_callB callLen (by rfl) T.z_len PySem.boot_len (pa_cons (pe_dget (units1 hr) (pv 1) pe_str (fun _ _ => rfl)) pa_nil)))))
      (pss_cons (ps_set (i := 3) sc_law_targets.nd rfl (.inl rfl) (pe_join pe_str (pe_lc (own := [("letter", 4)]) (g := gName 4)  rfl sc_law_targets.nd (pi_str (pv 2)) (blkOk_by (own := [("letter", 4)]) (N := sc_law_targets_N) (sc := defScope s_law_targets) (by decide +kernel)) (fun _ _ _ _ _ => (pg_name (i := 4) sc_law_targets.nd rfl (.inl rfl))) (fun _ _ _ _ _ => (pts_one (pt_cmpR op_eq (pe_call G_law_take (hr.mono (by first | decide | exact Nat.le_refl _ | omega)) (by rfl) T.g_law_take T.F_law_take.kp T.b_law_take .nil pass0 (pa_cons (pv 0) (pa_cons pe_int pa_nil))) pe_int (nomark _)))) (fun _ _ _ _ _ => (pv 4)))))
      (pss_one (ps_ret (pe_ifExp (pt_cmpR op_ne (pv 3) pe_str (nomark _)) (pv 3) (pe_call G_law_pick_s (hr.mono (by first | decide | exact Nat.le_refl _ | omega)) (by rfl) T.g_law_pick T.F_law_pick.kp T.b_law_pick .nil pass0 (pa_cons (pv 0) (pa_cons (pv 2) pa_nil)))))))), ?_⟩
    simp only [gStr2, gSeqH, tDc_c, tDGet, sDPut, rCat, tBreak, rExtend, tSeq, tAsg, tRet, tRetN, tDrop, tIfS, tNext, tNever, tOp, tUn, tVar, tC, rI0, rI, rU, tTest, tIf, tB, tAnd, tOr, tNot, tAndV, tOrV, tNotV, gName, gSub, gTupH, gCons, gNil, tYes, tCons, tNil, tLst, tTup, tCB, tCall, tMeth, tMake, tFld, sFld, tFor_c, tLc_c, iRng1, iList, iTup, iStr, iSeqB, iEnumB, tM1, tSl, tPart, tNoPart, rSlS, rIxS, tBM, rAppend, tIf, rEq, rNe, scal, hIx, hIxT, hIxB, hSet, hInt, hIntB, hLen, hLenT, hLenB, L2.start, wipe, List.map_cons, List.map_nil, List.set_cons_zero, List.set_cons_succ, List.set_nil, List.length_cons, List.length_nil, List.length_map, List.cons_append, List.nil_append, List.append_nil, List.replicate, List.getElem?_cons_zero, List.getElem?_cons_succ, Option.some.injEq, V.int.injEq, V.bl.injEq, V.ref.injEq, V.str.injEq, List.cons.injEq, exists_eq_left', exists_eq_left, exists_and_left, and_assoc, upd_same, upd_upd, HO.lst.injEq, HO.tup.injEq, atI_0, atI_1, atI_2, atI_3, set_1, set_2, set_3, CDiv, CPow, CMul, List.length_set, Int.reduceToNat, Int.reduceLE, Int.reduceLT, Int.reducePow, Int.reduceNeg, Nat.reduceAdd, Nat.reduceLT, Nat.reduceLeDiff, Nat.reducePow, Nat.zero_add, or_true, true_or, gt_iff_lt, ge_iff_le, and_true, true_and, decide_eq_true_eq, if_true, Bool.false_eq_true, if_false]
    obtain ⟨an, al, hR, _, gt⟩ := hN.gets
    obtain ⟨xs, ex, lx, _⟩ := hR.at
    rw [List.length_map] at lx
    have ej : Txt.join ("" : Str) = fun ys => Str.join Str.empty ys := funext fun ys => TL.join_eq _ ys
    refine ⟨_, (gt _ (Same.refl _)).2.1, an, rfl, _, ex, by decide +kernel, ⟨_, rfl⟩, ?_⟩
    rw [lx, cutN r6]
    have lts : lt (tx (AN.take rows.length)) = AN.take rows.length := lt_tx _
    have lA : (AN.take rows.length).length = rows.length := by rw [List.length_take, AN_len]; omega
    refine lcStr (x := tx (AN.take rows.length)) (fun i D H' => ∃ l : List Nat, H' D = some (.lst ((l.map fun c => tx [c]).map V.str)) ∧ l.Sublist ((AN.take rows.length).take i) ∧ Off1 p H H' ∧ PoolAt H' p c) ?_ ?_ ?_
    · intro D hD
      exact ⟨[], upd_same, List.nil_sublist _, Off1.refl.new hD, p0.new hD⟩
    · rintro i ch D H' hD hc ⟨l, eD, sub, k2, p2⟩
      have hc : (AN.take rows.length)[i]? = some ch := by rw [← lts]; exact hc
      refine ⟨rfl, ?_⟩
      simp only [gStr2, gSeqH, tDc_c, tDGet, sDPut, rCat, tBreak, rExtend, tSeq, tAsg, tRet, tRetN, tDrop, tIfS, tNext, tNever, tOp, tUn, tVar, tC, rI0, rI, rU, tTest, tIf, tB, tAnd, tOr, tNot, tAndV, tOrV, tNotV, gName, gSub, gTupH, gCons, gNil, tYes, tCons, tNil, tLst, tTup, tCB, tCall, tMeth, tMake, tFld, sFld, tFor_c, tLc_c, iRng1, iList, iTup, iStr, iSeqB, iEnumB, tM1, tSl, tPart, tNoPart, rSlS, rIxS, tBM, rAppend, tIf, rEq, rNe, scal, hIx, hIxT, hIxB, hSet, hInt, hIntB, hLen, hLenT, hLenB, L2.start, wipe, List.map_cons, List.map_nil, List.set_cons_zero, List.set_cons_succ, List.set_nil, List.length_cons, List.length_nil, List.length_map, List.cons_append, List.nil_append, List.append_nil, List.replicate, List.getElem?_cons_zero, List.getElem?_cons_succ, Option.some.injEq, V.int.injEq, V.bl.injEq, V.ref.injEq, V.str.injEq, List.cons.injEq, exists_eq_left', exists_eq_left, exists_and_left, and_assoc, upd_same, upd_upd, HO.lst.injEq, HO.tup.injEq, atI_0, atI_1, atI_2, atI_3, set_1, set_2, set_3, CDiv, CPow, CMul, List.length_set, Int.reduceToNat, Int.reduceLE, Int.reduceLT, Int.reducePow, Int.reduceNeg, Nat.reduceAdd, Nat.reduceLT, Nat.reduceLeDiff, Nat.reducePow, Nat.zero_add, or_true, true_or, gt_iff_lt, ge_iff_le, and_true, true_and, decide_eq_true_eq, if_true, Bool.false_eq_true, if_false]
      refine take_pool p2 (by decide) (by decide) fun d2 H1 d0 d1 k3 k3' p3 => ?_
      have hDp : D ≠ p := p0.ne_p hD
      have hDc : D ≠ c := p0.ne_c hD
      have eD3 : H1 D = some (.lst ((l.map fun c => tx [c]).map V.str)) := by rw [k3' D hDp]; exact eD
      refine ⟨rfl, ite2 (fun c1 => ?_) (fun c1 => ?_)⟩
      · refine ⟨_, eD3, ?_, l ++ [ch], ?_, ?_, (k2.tr k3).wr hD, p3.wr hDp hDc⟩
        · rw [List.length_map, List.length_map]
          have := (sub.trans (List.take_sublist _ _)).length_le
          exact small1000 (by omega)
        · rw [List.map_append, List.map_append]
          rfl
        · rw [take_s hc]
          exact sub.append (List.Sublist.refl _)
      · refine ⟨l, eD3, ?_, k2.tr k3, p3⟩
        rw [take_s hc]
        exact sub.trans (List.sublist_append_left _ _)
    · rintro D H' hD ⟨l, eD, sub, k2, p2⟩
      have sub2 : l.Sublist (AN.take rows.length) := sub.trans (List.take_sublist _ _)
      refine ⟨D, rfl, l.map (fun c => tx [c]), .inl (SqL.of eD), ?_, ?_⟩
      · rw [sum_one, show (Str.ofString "").length = 0 from by decide +kernel, Nat.mul_zero]
        have := sub2.length_le
        omega
      · rw [show Str.ofString "" = ("" : Str) from rfl, ej]
        simp only [join_tx]
        by_cases he : l = []
        · rw [he]
          refine iteF' (by decide +kernel) ⟨p, c, AN.take rows.length, rfl, p2, fun z => ?_, by omega, fun x H2 hx k3 p3 => q [x] H2 (fun z => by cases z) ?_ (k2.tr k3) p3⟩
          · rw [z] at lA
            have : ([] : List Nat).length = 0 := rfl
            omega
          · exact List.singleton_sublist.mpr hx
        · refine iteT' ?_ (q l H' he sub2 k2 p2)
          rw [decide_eq_false fun z => he (tx_inj (z.trans (show ("" : Str) = tx [] by decide +kernel)))]
          rfl
end
end AK
set_option Elab.async false
set_option linter.all false
set_option maxRecDepth 100000
set_option maxHeartbeats 4000000
namespace AK
open PySem PySem.Spec PyProof.Rows L2
section
variable {P : Program} {w : World} {K : PySem.W.Frag} {mg : Str → Option Value} {base : Heap} {a : Ads}
def spEAny (K : PySem.W.Frag) : Sp := fun vs H Q _ => ∃ (l : Nat × Nat) (p : Addr) (L : List (List Nat)), vs = [.str (lkt l), .ref p] ∧ H p = some (.lst (L.map fun s => V.str (tx s))) ∧ L.length ≤ 900 ∧ ∀ H', Same H H' → Q (.bl (L.any fun s => !decide (65 + l.1 ∈ s) && decide (65 + l.2 ∈ s))) H'
theorem ok_enters_any (T : Txt K mg a) : FnOk P w K mg base CX0 2 a.a_enters_any a.d_enters_any ["link", "sets"] (spEAny K) := by
  have G_enters := ok_enters (P := P) (w := w) (base := base) T
  refine T.F_enters_any.ok sc_enters_any (fun vs H Q E h => ?_) (fun cdv A outer s H vs Q E hr h => ?_)
  · obtain ⟨_, _, _, rfl, _⟩ := h
    rfl
  · obtain ⟨l, p, L, rfl, hp, h9, q⟩ := h
    refine ⟨_, (pss_one (ps_ret (pe_callB (cr_any rfl) (by rfl) T.z_any (by decide +kernel) (pa_cons (pe_lc (own := [("nodes", 2)]) (g := gName 2) (tt := tYes) rfl sc_enters_any.nd (pi_list (pv 1)) (blkOk_by (own := [("nodes", 2)]) (N := sc_enters_any_N) (sc := defScope s_enters_any) (by decide +kernel)) (fun _ _ _ _ _ => (pg_name (i := 2) sc_enters_any.nd rfl (.inl rfl))) (fun _ _ _ _ _ => pts_nil) (fun _ _ _ _ _ => (pe_call G_enters (hr.mono (by first | decide | exact Nat.le_refl _ | omega)) (by rfl) T.g_enters T.F_enters.kp T.b_enters .nil pass0 (pa_cons (pv 0) (pa_cons (pv 2) pa_nil))))) pa_nil)))), ?_⟩
    simp only [gStr2, gSeqH, tDc_c, tDGet, sDPut, rCat, tBreak, rExtend, tSeq, tAsg, tRet, tRetN, tDrop, tIfS, tNext, tNever, tOp, tUn, tVar, tC, rI0, rI, rU, tTest, tIf, tB, tAnd, tOr, tNot, tAndV, tOrV, tNotV, gName, gSub, gTupH, gCons, gNil, tYes, tCons, tNil, tLst, tTup, tCB, tCall, tMeth, tMake, tFld, sFld, tFor_c, tLc_c, iRng1, iList, iTup, iStr, iSeqB, iEnumB, tM1, tSl, tPart, tNoPart, rSlS, rIxS, tBM, rAppend, tIf, rEq, rNe, scal, hIx, hIxT, hIxB, hSet, hInt, hIntB, hLen, hLenT, hLenB, L2.start, wipe, List.map_cons, List.map_nil, List.set_cons_zero, List.set_cons_succ, List.set_nil, List.length_cons, List.length_nil, List.length_map, List.cons_append, List.nil_append, List.append_nil, List.replicate, List.getElem?_cons_zero, List.getElem?_cons_succ, Option.some.injEq, V.int.injEq, V.bl.injEq, V.ref.injEq, V.str.injEq, List.cons.injEq, exists_eq_left', exists_eq_left, exists_and_left, and_assoc, upd_same, upd_upd, HO.lst.injEq, HO.tup.injEq, atI_0, atI_1, atI_2, atI_3, set_1, set_2, set_3, CDiv, CPow, CMul, List.length_set, Int.reduceToNat, Int.reduceLE, Int.reduceLT, Int.reducePow, Int.reduceNeg, Nat.reduceAdd, Nat.reduceLT, Nat.reduceLeDiff, Nat.reducePow, Nat.zero_add, or_true, true_or, gt_iff_lt, ge_iff_le, and_true, true_and, decide_eq_true_eq, if_true, Bool.false_eq_true, if_false]
    refine ⟨⟨_, SqL.of hp⟩, ?_⟩
    refine lcLst (xs := L.map fun s => V.str (tx s)) (fun i D H' => H' D = some (.lst (((L.take i).map fun s => !decide (65 + l.1 ∈ s) && decide (65 + l.2 ∈ s)).map V.bl)) ∧ Same H H') (fun D hD => ⟨upd_same, same_new hD⟩) (fun i D H' _ _ z => SqL.of (z.2 _ _ hp)) ?_ ?_
    · rintro i v D H' hD hv ⟨eD, s1⟩
      obtain ⟨s0, hs0, rfl⟩ := map_at hv
      refine ⟨rfl, ?_⟩
      simp only [gStr2, gSeqH, tDc_c, tDGet, sDPut, rCat, tBreak, rExtend, tSeq, tAsg, tRet, tRetN, tDrop, tIfS, tNext, tNever, tOp, tUn, tVar, tC, rI0, rI, rU, tTest, tIf, tB, tAnd, tOr, tNot, tAndV, tOrV, tNotV, gName, gSub, gTupH, gCons, gNil, tYes, tCons, tNil, tLst, tTup, tCB, tCall, tMeth, tMake, tFld, sFld, tFor_c, tLc_c, iRng1, iList, iTup, iStr, iSeqB, iEnumB, tM1, tSl, tPart, tNoPart, rSlS, rIxS, tBM, rAppend, tIf, rEq, rNe, scal, hIx, hIxT, hIxB, hSet, hInt, hIntB, hLen, hLenT, hLenB, L2.start, wipe, List.map_cons, List.map_nil, List.set_cons_zero, List.set_cons_succ, List.set_nil, List.length_cons, List.length_nil, List.length_map, List.cons_append, List.nil_append, List.append_nil, List.replicate, List.getElem?_cons_zero, List.getElem?_cons_succ, Option.some.injEq, V.int.injEq, V.bl.injEq, V.ref.injEq, V.str.injEq, List.cons.injEq, exists_eq_left', exists_eq_left, exists_and_left, and_assoc, upd_same, upd_upd, HO.lst.injEq, HO.tup.injEq, atI_0, atI_1, atI_2, atI_3, set_1, set_2, set_3, CDiv, CPow, CMul, List.length_set, Int.reduceToNat, Int.reduceLE, Int.reduceLT, Int.reducePow, Int.reduceNeg, Nat.reduceAdd, Nat.reduceLT, Nat.reduceLeDiff, Nat.reducePow, Nat.zero_add, or_true, true_or, gt_iff_lt, ge_iff_le, and_true, true_and, decide_eq_true_eq, if_true, Bool.false_eq_true, if_false]
      refine ⟨l, s0, rfl, _, eD, ?_, ?_, same_out s1 hD⟩
      · rw [List.length_map, List.length_map, List.length_take]
        exact small1000 (by omega)
      · rw [take_s hs0, List.map_append, List.map_append]
        rfl
    · rintro D H' hD ⟨eD, s1⟩
      rw [List.length_map, List.take_of_length_le (Nat.le_refl _)] at eD
      refine ⟨D, _, rfl, SqL.of eD, ?_⟩
      have z := q H' s1
      rw [show ((L.map fun s => !decide (65 + l.1 ∈ s) && decide (65 + l.2 ∈ s)).any id) = L.any fun s => !decide (65 + l.1 ∈ s) && decide (65 + l.2 ∈ s) from by rw [List.any_map]; rfl]
      exact z
end
end AK
set_option Elab.async false
set_option linter.all false
set_option maxRecDepth 100000
set_option maxHeartbeats 4000000
namespace AK
open PySem PySem.Spec PyProof.Rows L2
def rInS : R2 := fun x y H Q => ∃ (c : Nat) (z : Str), x = .str ⟨#[c]⟩ ∧ y = .str z ∧ Q (.bl (decide (c ∈ z.cps.toList))) H
/-- whether a set has one of the targets -/
def hasT (T s : List Nat) : Bool := T.any fun c => decide (c ∈ s)
def sV (o : Option (List Nat)) : V := match o with | some s => .str (tx s) | none => .non
section
variable {P : Program} {w : World} {K : PySem.W.Frag} {mg : Str → Option Value} {base : Heap} {a : Ads}
def spWithA : Sp := fun vs H Q _ => ∃ (q0 : Addr) (L : List (List Nat)) (T : List Nat), vs = [.ref q0, .str (tx T)] ∧ H q0 = some (.lst (L.map fun s => V.str (tx s))) ∧ L.length ≤ 63 ∧ T.length ≤ 6 ∧
  ∀ D H', Same H H' → H D = none → H' D = some (.lst ((L.filter (hasT T)).map fun s => V.str (tx s))) → Q (.ref D) H'
theorem ok_with_any (T : Txt K mg a) : FnOk P w K mg base CX0 1 a.a_with_any a.d_with_any ["sets", "targets"] spWithA := by
  refine T.F_with_any.ok sc_with_any (fun vs H Q E h => ?_) (fun cdv A outer s H vs Q E hr h => ?_)
  · obtain ⟨_, _, _, rfl, _⟩ := h
    rfl
  · obtain ⟨q0, L, t, rfl, eL, l63, t6, q⟩ := h
    refine ⟨_, (pss_one (ps_ret (pe_lc (own := [("nodes", 2)]) (g := gName 2)  (tt := tB (tCB (rAny K) (tCons (tLc (iStr (tVar 1)) (gName 3) tYes (tOp rInS (tVar 3) (tVar 2)) [3]) tNil)))  rfl sc_with_any.nd (pi_list (pv 0)) (blkOk_by (own := [("nodes", 2)]) (N := sc_with_any_N) (sc := defScope s_with_any) (by decide +kernel)) (fun _ _ _ _ _ => (pg_name (i := 2) sc_with_any.nd rfl (.inr rfl))) (fun _ _ _ _ _ => by exact (pts_one (pt_val (pe_callB (cr_any rfl) (by rfl) T.z_any (by decide +kernel) (pa_cons (pe_lc (own := [("target", 3)]) (g := gName 3) (tt := tYes) rfl sc_with_any.nd (pi_str (pv 1)) (blkOk_by (own := [("target", 3)]) (N := sc_with_any_N) (sc := { kind := PySem.ScopeKind.function, names := [ (PySem.Str.ofString ".0", PySem.NameKind.local), (PySem.Str.ofString "nodes", PySem.NameKind.cell), (PySem.Str.ofString "any", PySem.NameKind.globalImplicit), (PySem.Str.ofString "targets", PySem.NameKind.cell)], isGenerator := false, isCoroutine := false, more := [] : PySem.Scope }) (by decide +kernel)) (fun _ _ _ _ _ => (pg_name (i := 3) sc_with_any.nd rfl (.inl rfl))) (fun _ _ _ _ _ => pts_nil) (fun _ _ _ _ _ => (pe_cmpR op_in_sign (pv 3) (pv 2) rfl))) pa_nil))))) (fun _ _ _ _ _ => (pv 2))))), ?_⟩
    simp only [gStr2, gSeqH, tDc_c, tDGet, sDPut, rCat, tBreak, rExtend, tSeq, tAsg, tRet, tRetN, tDrop, tIfS, tNext, tNever, tOp, tUn, tVar, tC, rI0, rI, rU, tTest, tIf, tB, tAnd, tOr, tNot, tAndV, tOrV, tNotV, gName, gSub, gTupH, gCons, gNil, tYes, tCons, tNil, tLst, tTup, tCB, tCall, tMeth, tMake, tFld, sFld, tFor_c, tLc_c, iRng1, iList, iTup, iStr, iSeqB, iEnumB, tM1, tSl, tPart, tNoPart, rSlS, rIxS, tBM, rAppend, tIf, rEq, rNe, scal, hIx, hIxT, hIxB, hSet, hInt, hIntB, hLen, hLenT, hLenB, L2.start, wipe, List.map_cons, List.map_nil, List.set_cons_zero, List.set_cons_succ, List.set_nil, List.length_cons, List.length_nil, List.length_map, List.cons_append, List.nil_append, List.append_nil, List.replicate, List.getElem?_cons_zero, List.getElem?_cons_succ, Option.some.injEq, V.int.injEq, V.bl.injEq, V.ref.injEq, V.str.injEq, List.cons.injEq, exists_eq_left', exists_eq_left, exists_and_left, and_assoc, upd_same, upd_upd, HO.lst.injEq, HO.tup.injEq, atI_0, atI_1, atI_2, atI_3, set_1, set_2, set_3, CDiv, CPow, CMul, List.length_set, Int.reduceToNat, Int.reduceLE, Int.reduceLT, Int.reducePow, Int.reduceNeg, Nat.reduceAdd, Nat.reduceLT, Nat.reduceLeDiff, Nat.reducePow, Nat.zero_add, or_true, true_or, gt_iff_lt, ge_iff_le, and_true, true_and, decide_eq_true_eq, if_true, Bool.false_eq_true, if_false]
    refine ⟨⟨_, SqL.of eL⟩, ?_⟩
    refine lcLst (xs := L.map fun s => V.str (tx s)) (fun i D H' => H' D = some (.lst (((L.take i).filter (hasT t)).map fun s => V.str (tx s))) ∧ Same H H') (fun D hD => ⟨by rw [List.take_zero]; exact upd_same, same_new hD⟩) (fun i D H' _ _ z => SqL.of (z.2 _ _ eL)) ?_ ?_
    · rintro i x D H1 hD hx ⟨eD, s1⟩
      obtain ⟨s0, hs0, rfl⟩ := map_at hx
      refine ⟨rfl, ?_⟩
      simp only [gStr2, gSeqH, tDc_c, tDGet, sDPut, rCat, tBreak, rExtend, tSeq, tAsg, tRet, tRetN, tDrop, tIfS, tNext, tNever, tOp, tUn, tVar, tC, rI0, rI, rU, tTest, tIf, tB, tAnd, tOr, tNot, tAndV, tOrV, tNotV, gName, gSub, gTupH, gCons, gNil, tYes, tCons, tNil, tLst, tTup, tCB, tCall, tMeth, tMake, tFld, sFld, tFor_c, tLc_c, iRng1, iList, iTup, iStr, iSeqB, iEnumB, tM1, tSl, tPart, tNoPart, rSlS, rIxS, tBM, rAppend, tIf, rEq, rNe, scal, hIx, hIxT, hIxB, hSet, hInt, hIntB, hLen, hLenT, hLenB, L2.start, wipe, List.map_cons, List.map_nil, List.set_cons_zero, List.set_cons_succ, List.set_nil, List.length_cons, List.length_nil, List.length_map, List.cons_append, List.nil_append, List.append_nil, List.replicate, List.getElem?_cons_zero, List.getElem?_cons_succ, Option.some.injEq, V.int.injEq, V.bl.injEq, V.ref.injEq, V.str.injEq, List.cons.injEq, exists_eq_left', exists_eq_left, exists_and_left, and_assoc, upd_same, upd_upd, HO.lst.injEq, HO.tup.injEq, atI_0, atI_1, atI_2, atI_3, set_1, set_2, set_3, CDiv, CPow, CMul, List.length_set, Int.reduceToNat, Int.reduceLE, Int.reduceLT, Int.reducePow, Int.reduceNeg, Nat.reduceAdd, Nat.reduceLT, Nat.reduceLeDiff, Nat.reducePow, Nat.zero_add, or_true, true_or, gt_iff_lt, ge_iff_le, and_true, true_and, decide_eq_true_eq, if_true, Bool.false_eq_true, if_false]
      have lts : lt (tx t) = t := lt_tx t
      refine lcStr (x := tx t) (fun j D2 H' => H' D2 = some (.lst (((t.take j).map fun c => decide (c ∈ s0)).map V.bl)) ∧ Same H1 H') (fun D2 hD2 => ⟨upd_same, same_new hD2⟩) ?_ ?_
      · rintro j c D2 H2 hD2 hc ⟨eD2, s2⟩
        have hc : t[j]? = some c := by rw [← lts]; exact hc
        refine ⟨rfl, ?_⟩
        unfold rInS
        simp only [gStr2, gSeqH, tDc_c, tDGet, sDPut, rCat, tBreak, rExtend, tSeq, tAsg, tRet, tRetN, tDrop, tIfS, tNext, tNever, tOp, tUn, tVar, tC, rI0, rI, rU, tTest, tIf, tB, tAnd, tOr, tNot, tAndV, tOrV, tNotV, gName, gSub, gTupH, gCons, gNil, tYes, tCons, tNil, tLst, tTup, tCB, tCall, tMeth, tMake, tFld, sFld, tFor_c, tLc_c, iRng1, iList, iTup, iStr, iSeqB, iEnumB, tM1, tSl, tPart, tNoPart, rSlS, rIxS, tBM, rAppend, tIf, rEq, rNe, scal, hIx, hIxT, hIxB, hSet, hInt, hIntB, hLen, hLenT, hLenB, L2.start, wipe, List.map_cons, List.map_nil, List.set_cons_zero, List.set_cons_succ, List.set_nil, List.length_cons, List.length_nil, List.length_map, List.cons_append, List.nil_append, List.append_nil, List.replicate, List.getElem?_cons_zero, List.getElem?_cons_succ, Option.some.injEq, V.int.injEq, V.bl.injEq, V.ref.injEq, V.str.injEq, List.cons.injEq, exists_eq_left', exists_eq_left, exists_and_left, and_assoc, upd_same, upd_upd, HO.lst.injEq, HO.tup.injEq, atI_0, atI_1, atI_2, atI_3, set_1, set_2, set_3, CDiv, CPow, CMul, List.length_set, Int.reduceToNat, Int.reduceLE, Int.reduceLT, Int.reducePow, Int.reduceNeg, Nat.reduceAdd, Nat.reduceLT, Nat.reduceLeDiff, Nat.reducePow, Nat.zero_add, or_true, true_or, gt_iff_lt, ge_iff_le, and_true, true_and, decide_eq_true_eq, if_true, Bool.false_eq_true, if_false]
        refine ⟨c, rfl, _, eD2, ?_, ?_, same_out s2 hD2⟩
        · rw [List.length_map, List.length_map, List.length_take]
          exact small1000 (by omega)
        · rw [take_s hc, List.map_append, List.map_append]
          rfl
      · rintro D2 H2 hD2 ⟨eD2, s2⟩
        rw [lts, List.take_of_length_le (Nat.le_refl _)] at eD2
        refine ⟨D2, _, rfl, SqL.of eD2, ?_⟩
        have hb : ((t.map fun c => decide (c ∈ s0)).any id) = hasT t s0 := by
          rw [List.any_map]
          rfl
        rw [hb]
        refine ⟨_, rfl, ite2 (fun c => ?_) fun c => ?_⟩
        · refine ⟨_, s2 _ _ eD, ?_, ?_, same_out (Same.tr s1 s2) hD⟩
          · rw [List.length_map]
            exact small1000 (Nat.le_trans (List.length_filter_le _ _) (by rw [List.length_take]; omega))
          · rw [take_s hs0, List.filter_append, List.filter_cons, if_pos c, List.filter_nil, List.map_append]
            rfl
        · rw [take_s hs0, List.filter_append, List.filter_cons, if_neg c, List.filter_nil, List.append_nil]
          exact ⟨s2 _ _ eD, Same.tr s1 s2⟩
    · rintro D H1 hD ⟨eD, s1⟩
      rw [List.length_map, List.take_of_length_le (Nat.le_refl _)] at eD
      exact q D H1 s1 hD eD
def spFW : Sp := fun vs H Q _ => ∃ (q0 : Addr) (L : List (List Nat)) (T : List Nat), vs = [.ref q0, .str (tx T)] ∧ H q0 = some (.lst (L.map fun s => V.str (tx s))) ∧ L.length ≤ 63 ∧ T.length ≤ 6 ∧ ∀ H', Same H H' → Q (sV (L.filter (hasT T)).head?) H'
theorem ok_first_with (T : Txt K mg a) : FnOk P w K mg base CX0 2 a.a_first_with a.d_first_with ["sets", "targets"] spFW := by
  have G_with_any := ok_with_any (P := P) (w := w) (base := base) T
  refine T.F_first_with.ok sc_first_with (fun vs H Q E h => ?_) (fun cdv A outer s H vs Q E hr h => ?_)
  · obtain ⟨_, _, _, rfl, _⟩ := h
    rfl
  · obtain ⟨q0, L, t, rfl, eL, l63, t6, q⟩ := h
    refine ⟨_, (pss_cons (ps_set (i := 2) sc_first_with.nd rfl (.inl rfl) (pe_call G_with_any (hr.mono (by first | decide | exact Nat.le_refl _ | omega)) (by rfl) T.g_with_any T.F_with_any.kp T.b_with_any .nil pass0 (pa_cons (pv 0) (pa_cons (pv 1) pa_nil))))
      (pss_one (ps_ret (pe_ifExp (pt_truth (pv 2) (by intro _; rfl)) (pe_ix ixH (pv 2) pe_int (fun _ _ => rfl)) pe_non)))), ?_⟩
    simp only [gStr2, gSeqH, tDc_c, tDGet, sDPut, rCat, tBreak, rExtend, tSeq, tAsg, tRet, tRetN, tDrop, tIfS, tNext, tNever, tOp, tUn, tVar, tC, rI0, rI, rU, tTest, tIf, tB, tAnd, tOr, tNot, tAndV, tOrV, tNotV, gName, gSub, gTupH, gCons, gNil, tYes, tCons, tNil, tLst, tTup, tCB, tCall, tMeth, tMake, tFld, sFld, tFor_c, tLc_c, iRng1, iList, iTup, iStr, iSeqB, iEnumB, tM1, tSl, tPart, tNoPart, rSlS, rIxS, tBM, rAppend, tIf, rEq, rNe, scal, hIx, hIxT, hIxB, hSet, hInt, hIntB, hLen, hLenT, hLenB, L2.start, wipe, List.map_cons, List.map_nil, List.set_cons_zero, List.set_cons_succ, List.set_nil, List.length_cons, List.length_nil, List.length_map, List.cons_append, List.nil_append, List.append_nil, List.replicate, List.getElem?_cons_zero, List.getElem?_cons_succ, Option.some.injEq, V.int.injEq, V.bl.injEq, V.ref.injEq, V.str.injEq, List.cons.injEq, exists_eq_left', exists_eq_left, exists_and_left, and_assoc, upd_same, upd_upd, HO.lst.injEq, HO.tup.injEq, atI_0, atI_1, atI_2, atI_3, set_1, set_2, set_3, CDiv, CPow, CMul, List.length_set, Int.reduceToNat, Int.reduceLE, Int.reduceLT, Int.reducePow, Int.reduceNeg, Nat.reduceAdd, Nat.reduceLT, Nat.reduceLeDiff, Nat.reducePow, Nat.zero_add, or_true, true_or, gt_iff_lt, ge_iff_le, and_true, true_and, decide_eq_true_eq, if_true, Bool.false_eq_true, if_false]
    refine ⟨q0, L, t, rfl, eL, l63, t6, fun D H1 s1 nD eD => ?_⟩
    have q1 := q H1 s1
    cases hf : L.filter (hasT t) with
    | nil =>
      rw [hf] at eD q1
      refine ⟨_, .inl ⟨_, SqL.of eD, rfl⟩, iteF' (fun z => by cases z) ?_⟩
      exact q1
    | cons s0 r =>
      rw [hf] at eD q1
      refine ⟨_, .inl ⟨_, SqL.of eD, rfl⟩, iteT' rfl ?_⟩
      exact ⟨D, rfl, _, eD, _, atI_0, q1⟩
def dfT (rows : List (List Nat)) (ls : List (Nat × Nat)) (T : List Nat) : Option (List Nat) := ((defS rows ls).filter (hasT T)).head?
def okT (rows : List (List Nat)) (T : List Nat) : Prop := T ≠ [] ∧ asc (AN.take rows.length) T = true
def spFS (C CS : Addr) : Sp := fun vs H Q E => ∃ (p : Addr) (n : Nat) (rows : List (List Nat)) (ls : List (Nat × Nat)) (T : List Nat), vs = [.ref p, .str (tx T)] ∧ NetN C H p n rows ls ∧ OkR n rows ls ∧ T.length ≤ 6 ∧ (∀ c ∈ T, c < 1000) ∧
  (okT rows T → ∀ H', Same H H' → Q (sV (dfT rows ls T)) H') ∧ (¬ okT rows T → ∀ H', Same H H' → E (.ref CS) none H')
theorem no_okT {rows : List (List Nat)} {T : List Nat} (h : T = [] ∨ asc (AN.take rows.length) T = false) : ¬ okT rows T := fun z => h.elim z.1 fun y => by
  rw [z.2] at y
  cases y
theorem ok_first_set (T : Txt K mg a) : FnOk P w K mg base (L2.CX P w) 9 a.a_first_set a.d_first_set ["network", "targets"] (spFS a.c_Network a.c_NoSet) := by
  have G_require_set := ok_require_set (P := P) (w := w) (base := base) T
  have G_margins_of := ok_margins_of (P := P) (w := w) (base := base) T
  have G_Margins_deficient := ok_deficient (P := P) (w := w) (base := base) T
  have G_first_with := ok_first_with (P := P) (w := w) (base := base) T
  refine T.F_first_set.okX sc_first_set (fun vs H Q E h => ?_) (fun cdv A outer s H vs Q E hr h => ?_)
  · obtain ⟨_, _, _, _, _, rfl, _⟩ := h
    rfl
  · obtain ⟨p, n, rows, ls, t, rfl, hN, ok, t6, tc, q1, q2⟩ := h
    refine ⟨_, (pss_cons (ps_expr (pe_call G_require_set (hr.mono (by first | decide | exact Nat.le_refl _ | omega)) (by rfl) T.g_require_set T.F_require_set.kp T.b_require_set .nil (passes_call (E := E) (takes_of rfl rfl rfl rfl) (fun _ _ _ _ z => z)) (pa_cons (pv 0) (pa_cons (pv 1) pa_nil))))
      (pss_one (ps_ret (pe_call G_first_with (hr.mono (by first | decide | exact Nat.le_refl _ | omega)) (by rfl) T.g_first_with T.F_first_with.kp T.b_first_with .nil pass0 (pa_cons (pe_meth0 (pe_call G_margins_of (hr.mono (by first | decide | exact Nat.le_refl _ | omega)) (by rfl) T.g_margins_of T.F_margins_of.kp T.b_margins_of .nil pass0 (pa_cons (pv 0) pa_nil)) T.C_Margins T.M_Margins_deficient G_Margins_deficient (hr.mono (by first | decide | exact Nat.le_refl _ | omega)) T.b_Margins_deficient .nil pass0) (pa_cons (pv 1) pa_nil)))))), ?_⟩
    simp only [gStr2, gSeqH, tDc_c, tDGet, sDPut, rCat, tBreak, rExtend, tSeq, tAsg, tRet, tRetN, tDrop, tIfS, tNext, tNever, tOp, tUn, tVar, tC, rI0, rI, rU, tTest, tIf, tB, tAnd, tOr, tNot, tAndV, tOrV, tNotV, gName, gSub, gTupH, gCons, gNil, tYes, tCons, tNil, tLst, tTup, tCB, tCall, tMeth, tMake, tFld, sFld, tFor_c, tLc_c, iRng1, iList, iTup, iStr, iSeqB, iEnumB, tM1, tSl, tPart, tNoPart, rSlS, rIxS, tBM, rAppend, tIf, rEq, rNe, scal, hIx, hIxT, hIxB, hSet, hInt, hIntB, hLen, hLenT, hLenB, L2.start, wipe, List.map_cons, List.map_nil, List.set_cons_zero, List.set_cons_succ, List.set_nil, List.length_cons, List.length_nil, List.length_map, List.cons_append, List.nil_append, List.append_nil, List.replicate, List.getElem?_cons_zero, List.getElem?_cons_succ, Option.some.injEq, V.int.injEq, V.bl.injEq, V.ref.injEq, V.str.injEq, List.cons.injEq, exists_eq_left', exists_eq_left, exists_and_left, and_assoc, upd_same, upd_upd, HO.lst.injEq, HO.tup.injEq, atI_0, atI_1, atI_2, atI_3, set_1, set_2, set_3, CDiv, CPow, CMul, List.length_set, Int.reduceToNat, Int.reduceLE, Int.reduceLT, Int.reducePow, Int.reduceNeg, Nat.reduceAdd, Nat.reduceLT, Nat.reduceLeDiff, Nat.reducePow, Nat.zero_add, or_true, true_or, gt_iff_lt, ge_iff_le, and_true, true_and, decide_eq_true_eq, if_true, Bool.false_eq_true, if_false]
    refine ⟨p, n, rows, ls, t, rfl, hN, ok, t6, tc, fun h1 h2 H1 s1 => ?_, fun h H1 s1 => q2 (no_okT h) H1 s1⟩
    refine ⟨p, n, rows, ls, rfl, hN.same s1, ok, fun m H2 s2 nm hM => ?_⟩
    obtain ⟨dx, dS, dD, dB, as, fs, e1, l1, l2, l3, eS, las, hb, eD, eB, nf⟩ := hM.ex
    refine ⟨m, rfl, dx, fs, e1, nf _ (by decide +kernel) (by decide +kernel) (by decide +kernel) (by decide +kernel), m, rows, ls, rfl, hM, ok.r2, fun D H3 s3 nD eD3 => ?_⟩
    refine ⟨D, _, t, rfl, eD3, Nat.le_trans (List.length_filter_le _ _) (osets_ord ok.r2).2.1, t6, fun H4 s4 => q1 ⟨h1, h2⟩ H4 (Same.tr s1 (Same.tr s2 (Same.tr s3 s4)))⟩
def spFF (C CS : Addr) : Sp := fun vs H Q E => ∃ (p : Addr) (n : Nat) (rows : List (List Nat)) (ls : List (Nat × Nat)) (T : List Nat), vs = [.ref p, .str (tx T)] ∧ NetN C H p n rows ls ∧ OkR n rows ls ∧ T.length ≤ 6 ∧ (∀ c ∈ T, c < 1000) ∧
  (okT rows T → ∀ H', Same H H' → Q (.bl (decide (dfT rows ls T = none))) H') ∧ (¬ okT rows T → ∀ H', Same H H' → E (.ref CS) none H')
theorem sV_non {o : Option (List Nat)} : decide (sV o = .non) = decide (o = none) := by
  cases o with
  | none => rfl
  | some s => rfl
theorem ok_is_feasible_for (T : Txt K mg a) : FnOk P w K mg base (L2.CX P w) 10 a.a_is_feasible_for a.d_is_feasible_for ["network", "targets"] (spFF a.c_Network a.c_NoSet) := by
  have G_first_set := ok_first_set (P := P) (w := w) (base := base) T
  refine T.F_is_feasible_for.okX sc_is_feasible_for (fun vs H Q E h => ?_) (fun cdv A outer s H vs Q E hr h => ?_)
  · obtain ⟨_, _, _, _, _, rfl, _⟩ := h
    rfl
  · obtain ⟨p, n, rows, ls, t, rfl, hN, ok, t6, tc, q1, q2⟩ := h
    refine ⟨_, (pss_one (ps_ret (pe_cmpR op_isN (pe_call G_first_set (hr.mono (by first | decide | exact Nat.le_refl _ | omega)) (by rfl) T.g_first_set T.F_first_set.kp T.b_first_set .nil (passes_call (E := E) (takes_of rfl rfl rfl rfl) (fun _ _ _ _ z => z)) (pa_cons (pv 0) (pa_cons (pv 1) pa_nil))) pe_non (nomark _)))), ?_⟩
    simp only [gStr2, gSeqH, tDc_c, tDGet, sDPut, rCat, tBreak, rExtend, tSeq, tAsg, tRet, tRetN, tDrop, tIfS, tNext, tNever, tOp, tUn, tVar, tC, rI0, rI, rU, tTest, tIf, tB, tAnd, tOr, tNot, tAndV, tOrV, tNotV, gName, gSub, gTupH, gCons, gNil, tYes, tCons, tNil, tLst, tTup, tCB, tCall, tMeth, tMake, tFld, sFld, tFor_c, tLc_c, iRng1, iList, iTup, iStr, iSeqB, iEnumB, tM1, tSl, tPart, tNoPart, rSlS, rIxS, tBM, rAppend, tIf, rEq, rNe, scal, hIx, hIxT, hIxB, hSet, hInt, hIntB, hLen, hLenT, hLenB, L2.start, wipe, List.map_cons, List.map_nil, List.set_cons_zero, List.set_cons_succ, List.set_nil, List.length_cons, List.length_nil, List.length_map, List.cons_append, List.nil_append, List.append_nil, List.replicate, List.getElem?_cons_zero, List.getElem?_cons_succ, Option.some.injEq, V.int.injEq, V.bl.injEq, V.ref.injEq, V.str.injEq, List.cons.injEq, exists_eq_left', exists_eq_left, exists_and_left, and_assoc, upd_same, upd_upd, HO.lst.injEq, HO.tup.injEq, atI_0, atI_1, atI_2, atI_3, set_1, set_2, set_3, CDiv, CPow, CMul, List.length_set, Int.reduceToNat, Int.reduceLE, Int.reduceLT, Int.reducePow, Int.reduceNeg, Nat.reduceAdd, Nat.reduceLT, Nat.reduceLeDiff, Nat.reducePow, Nat.zero_add, or_true, true_or, gt_iff_lt, ge_iff_le, and_true, true_and, decide_eq_true_eq, if_true, Bool.false_eq_true, if_false]
    refine ⟨p, n, rows, ls, t, rfl, hN, ok, t6, tc, fun h H1 s1 => ?_, fun h H1 s1 => q2 h H1 s1⟩
    show Q (.bl (decide (sV (dfT rows ls t) = .non))) H1
    rw [sV_non]
    exact q1 h H1 s1
end
end AK
set_option Elab.async false
set_option linter.all false
set_option maxRecDepth 100000
set_option maxHeartbeats 4000000
namespace AK
open PySem PySem.Spec PyProof.Rows L2
def aloneL (rows : List (List Nat)) (ls : List (Nat × Nat)) (T : List Nat) : List Nat := T.filter fun c => decide (dfT rows ls [c] = none)
def critL (rows : List (List Nat)) (ls : List (Nat × Nat)) (T : List Nat) : List Nat := (List.range ls.length).filter fun k => ((tigS rows ls).filter (hasT T)).any fun s => !decide (65 + (ls.getD k (0, 0)).1 ∈ s) && decide (65 + (ls.getD k (0, 0)).2 ∈ s)
theorem sV_iff {o : Option (List Nat)} : sV o = .non ↔ o = none := by
  cases o with
  | none => exact ⟨fun _ => rfl, fun _ => rfl⟩
  | some s => exact ⟨fun z => (by cases z), fun z => (by cases z)⟩
section
variable {P : Program} {w : World} {K : PySem.W.Frag} {mg : Str → Option Value} {base : Heap} {a : Ads}
def spFA (C CS : Addr) : Sp := fun vs H Q E => ∃ (p : Addr) (n : Nat) (rows : List (List Nat)) (ls : List (Nat × Nat)) (T : List Nat), vs = [.ref p, .str (tx T)] ∧ NetN C H p n rows ls ∧ OkR n rows ls ∧ T.length ≤ 6 ∧ (∀ c ∈ T, c < 1000) ∧
  (okT rows T → ∀ H', Same H H' → Q (.str (tx (aloneL rows ls T))) H') ∧ (¬ okT rows T → ∀ H', Same H H' → E (.ref CS) none H')
theorem ok_feasible_alone (T : Txt K mg a) : FnOk P w K mg base (L2.CX P w) 9 a.a_feasible_alone a.d_feasible_alone ["network", "targets"] (spFA a.c_Network a.c_NoSet) := by
  have G_require_set := ok_require_set (P := P) (w := w) (base := base) T
  have G_margins_of := ok_margins_of (P := P) (w := w) (base := base) T
  have G_Margins_deficient := ok_deficient (P := P) (w := w) (base := base) T
  have G_first_with := ok_first_with (P := P) (w := w) (base := base) T
  refine T.F_feasible_alone.okX sc_feasible_alone (fun vs H Q E h => ?_) (fun cdv A outer s H vs Q E hr h => ?_)
  · obtain ⟨_, _, _, _, _, rfl, _⟩ := h
    rfl
  · obtain ⟨p, n, rows, ls, t, rfl, hN, ok, t6, tc, q1, q2⟩ := h
    refine ⟨_, (pss_cons (ps_expr (pe_call G_require_set (hr.mono (by first | decide | exact Nat.le_refl _ | omega)) (by rfl) T.g_require_set T.F_require_set.kp T.b_require_set .nil (passes_call (E := E) (takes_of rfl rfl rfl rfl) (fun _ _ _ _ z => z)) (pa_cons (pv 0) (pa_cons (pv 1) pa_nil))))
      (pss_cons (ps_set (i := 2) sc_feasible_alone.nd rfl (.inr rfl) (pe_meth0 (pe_call G_margins_of (hr.mono (by first | decide | exact Nat.le_refl _ | omega)) (by rfl) T.g_margins_of T.F_margins_of.kp T.b_margins_of .nil pass0 (pa_cons (pv 0) pa_nil)) T.C_Margins T.M_Margins_deficient G_Margins_deficient (hr.mono (by first | decide | exact Nat.le_refl _ | omega)) T.b_Margins_deficient .nil pass0))
      (pss_one (ps_ret (pe_join pe_str (pe_lc (own := [("target", 3)]) (g := gName 3)  rfl sc_feasible_alone.nd (pi_str (pv 1)) (blkOk_by (own := [("target", 3)]) (N := sc_feasible_alone_N) (sc := defScope s_feasible_alone) (by decide +kernel)) (fun _ _ _ _ _ => (pg_name (i := 3) sc_feasible_alone.nd rfl (.inl rfl))) (fun _ _ _ _ _ => (pts_one (pt_cmpR op_isN (pe_call G_first_with (hr.mono (by first | decide | exact Nat.le_refl _ | omega)) (by rfl) T.g_first_with T.F_first_with.kp T.b_first_with .nil pass0 (pa_cons (pv 2) (pa_cons (pv 3) pa_nil))) pe_non (nomark _)))) (fun _ _ _ _ _ => (pv 3)))))))), ?_⟩
    simp only [gStr2, gSeqH, tDc_c, tDGet, sDPut, rCat, tBreak, rExtend, tSeq, tAsg, tRet, tRetN, tDrop, tIfS, tNext, tNever, tOp, tUn, tVar, tC, rI0, rI, rU, tTest, tIf, tB, tAnd, tOr, tNot, tAndV, tOrV, tNotV, gName, gSub, gTupH, gCons, gNil, tYes, tCons, tNil, tLst, tTup, tCB, tCall, tMeth, tMake, tFld, sFld, tFor_c, tLc_c, iRng1, iList, iTup, iStr, iSeqB, iEnumB, tM1, tSl, tPart, tNoPart, rSlS, rIxS, tBM, rAppend, tIf, rEq, rNe, scal, hIx, hIxT, hIxB, hSet, hInt, hIntB, hLen, hLenT, hLenB, L2.start, wipe, List.map_cons, List.map_nil, List.set_cons_zero, List.set_cons_succ, List.set_nil, List.length_cons, List.length_nil, List.length_map, List.cons_append, List.nil_append, List.append_nil, List.replicate, List.getElem?_cons_zero, List.getElem?_cons_succ, Option.some.injEq, V.int.injEq, V.bl.injEq, V.ref.injEq, V.str.injEq, List.cons.injEq, exists_eq_left', exists_eq_left, exists_and_left, and_assoc, upd_same, upd_upd, HO.lst.injEq, HO.tup.injEq, atI_0, atI_1, atI_2, atI_3, set_1, set_2, set_3, CDiv, CPow, CMul, List.length_set, Int.reduceToNat, Int.reduceLE, Int.reduceLT, Int.reducePow, Int.reduceNeg, Nat.reduceAdd, Nat.reduceLT, Nat.reduceLeDiff, Nat.reducePow, Nat.zero_add, or_true, true_or, gt_iff_lt, ge_iff_le, and_true, true_and, decide_eq_true_eq, if_true, Bool.false_eq_true, if_false]
    refine ⟨p, n, rows, ls, t, rfl, hN, ok, t6, tc, fun h1 h2 H1 s1 => ?_, fun h H1 s1 => q2 (no_okT h) H1 s1⟩
    refine ⟨p, n, rows, ls, rfl, hN.same s1, ok, fun m H2 s2 nm hM => ?_⟩
    obtain ⟨dx, dS, dD, dB, as, fs, e1, l1, l2, l3, eS, las, hb, eD, eB, nf⟩ := hM.ex
    refine ⟨m, rfl, dx, fs, e1, nf _ (by decide +kernel) (by decide +kernel) (by decide +kernel) (by decide +kernel), m, rows, ls, rfl, hM, ok.r2, fun D H3 s3 nD eD3 => ?_⟩
    have s03 := Same.tr s1 (Same.tr s2 s3)
    have ej : Txt.join ("" : Str) = fun ys => Str.join Str.empty ys := funext fun ys => TL.join_eq _ ys
    have lts : lt (tx t) = t := lt_tx t
    refine ⟨⟨_, rfl⟩, ?_⟩
    have ld : (defS rows ls).length ≤ 63 := Nat.le_trans (List.length_filter_le _ _) (osets_ord ok.r2).2.1
    refine lcStr (x := tx t) (fun i D4 H' => H' D4 = some (.lst ((((t.take i).filter fun c => decide (dfT rows ls [c] = none)).map fun c => tx [c]).map V.str)) ∧ Same H3 H') (fun D4 hD4 => ⟨by rw [List.take_zero]; exact upd_same, same_new hD4⟩) ?_ ?_
    · rintro i c D4 H4 hD4 hc ⟨eD4, s4⟩
      have hc : t[i]? = some c := by rw [← lts]; exact hc
      refine ⟨rfl, ?_⟩
      simp only [gStr2, gSeqH, tDc_c, tDGet, sDPut, rCat, tBreak, rExtend, tSeq, tAsg, tRet, tRetN, tDrop, tIfS, tNext, tNever, tOp, tUn, tVar, tC, rI0, rI, rU, tTest, tIf, tB, tAnd, tOr, tNot, tAndV, tOrV, tNotV, gName, gSub, gTupH, gCons, gNil, tYes, tCons, tNil, tLst, tTup, tCB, tCall, tMeth, tMake, tFld, sFld, tFor_c, tLc_c, iRng1, iList, iTup, iStr, iSeqB, iEnumB, tM1, tSl, tPart, tNoPart, rSlS, rIxS, tBM, rAppend, tIf, rEq, rNe, scal, hIx, hIxT, hIxB, hSet, hInt, hIntB, hLen, hLenT, hLenB, L2.start, wipe, List.map_cons, List.map_nil, List.set_cons_zero, List.set_cons_succ, List.set_nil, List.length_cons, List.length_nil, List.length_map, List.cons_append, List.nil_append, List.append_nil, List.replicate, List.getElem?_cons_zero, List.getElem?_cons_succ, Option.some.injEq, V.int.injEq, V.bl.injEq, V.ref.injEq, V.str.injEq, List.cons.injEq, exists_eq_left', exists_eq_left, exists_and_left, and_assoc, upd_same, upd_upd, HO.lst.injEq, HO.tup.injEq, atI_0, atI_1, atI_2, atI_3, set_1, set_2, set_3, CDiv, CPow, CMul, List.length_set, Int.reduceToNat, Int.reduceLE, Int.reduceLT, Int.reducePow, Int.reduceNeg, Nat.reduceAdd, Nat.reduceLT, Nat.reduceLeDiff, Nat.reducePow, Nat.zero_add, or_true, true_or, gt_iff_lt, ge_iff_le, and_true, true_and, decide_eq_true_eq, if_true, Bool.false_eq_true, if_false]
      refine ⟨D, _, [c], rfl, s4 _ _ eD3, ld, show 1 ≤ 6 by decide, fun H5 s5 => ?_⟩
      show if sV (dfT rows ls [c]) = .non then _ else _
      have s35 := Same.tr s4 s5
      have eD5 := s5 _ _ eD4
      refine ite2 (fun c1 => ?_) fun c1 => ?_
      · have c1 := decide_eq_true (sV_iff.mp c1)
        refine ⟨_, eD5, ?_, ?_, same_out s35 hD4⟩
        · rw [List.length_map, List.length_map]
          exact small1000 (Nat.le_trans (List.length_filter_le _ _) (by rw [List.length_take]; omega))
        · rw [take_s hc, List.filter_append, List.filter_cons, if_pos c1, List.filter_nil, List.map_append, List.map_append]
          rfl
      · rw [take_s hc, List.filter_append, List.filter_cons, if_neg (fun z => c1 (sV_iff.mpr (of_decide_eq_true z))), List.filter_nil, List.append_nil]
        exact ⟨eD5, s35⟩
    · rintro D4 H4 hD4 ⟨eD4, s4⟩
      rw [lts, List.take_of_length_le (Nat.le_refl _)] at eD4
      refine ⟨D4, rfl, _, .inl (SqL.of eD4), ?_, ?_⟩
      · rw [sum_one, show (Str.ofString "").length = 0 from by decide +kernel, Nat.mul_zero]
        have := List.length_filter_le (fun c => decide (dfT rows ls [c] = none)) t
        omega
      · rw [show Str.ofString "" = ("" : Str) from rfl, ej]
        simp only [join_tx]
        exact q1 ⟨h1, h2⟩ H4 (Same.tr s03 s4)
def spCr (C CS : Addr) : Sp := fun vs H Q E => ∃ (p : Addr) (n : Nat) (rows : List (List Nat)) (ls : List (Nat × Nat)) (T : List Nat), vs = [.ref p, .str (tx T)] ∧ NetN C H p n rows ls ∧ OkR n rows ls ∧ T.length ≤ 6 ∧ (∀ c ∈ T, c < 1000) ∧
  (okT rows T → (dfT rows ls T = none → ∀ t H', Same H H' → H' t = some (.tup (ni (critL rows ls T))) → Q (.ref t) H') ∧ (dfT rows ls T ≠ none → ∀ H', Same H H' → Q .non H')) ∧ (¬ okT rows T → ∀ H', Same H H' → E (.ref CS) none H')
theorem ok_critical_links (T : Txt K mg a) : FnOk P w K mg base (L2.CX P w) 11 a.a_critical_links a.d_critical_links ["network", "targets"] (spCr a.c_Network a.c_NoSet) := by
  have G_is_feasible_for := ok_is_feasible_for (P := P) (w := w) (base := base) T
  have G_margins_of := ok_margins_of (P := P) (w := w) (base := base) T
  have G_Margins_tight := ok_tight (P := P) (w := w) (base := base) T
  have G_with_any := ok_with_any (P := P) (w := w) (base := base) T
  have G_enters_any := ok_enters_any (P := P) (w := w) (base := base) T
  refine T.F_critical_links.okX sc_critical_links (fun vs H Q E h => ?_) (fun cdv A outer s H vs Q E hr h => ?_)
  · obtain ⟨_, _, _, _, _, rfl, _⟩ := h
    rfl
  · obtain ⟨p, n, rows, ls, t, rfl, hN, ok, t6, tc, q1, q2⟩ := h
    refine ⟨_, (pss_cons (ps_if (pt_not (pt_val (pe_call G_is_feasible_for (hr.mono (by first | decide | exact Nat.le_refl _ | omega)) (by rfl) T.g_is_feasible_for T.F_is_feasible_for.kp T.b_is_feasible_for .nil (passes_call (E := E) (takes_of rfl rfl rfl rfl) (fun _ _ _ _ z => z)) (pa_cons (pv 0) (pa_cons (pv 1) pa_nil)))))
      (pss_one (ps_ret pe_non))
      pss_nil)
      (pss_cons (ps_set (i := 2) sc_critical_links.nd rfl (.inr rfl) (pe_call G_with_any (hr.mono (by first | decide | exact Nat.le_refl _ | omega)) (by rfl) T.g_with_any T.F_with_any.kp T.b_with_any .nil pass0 (pa_cons (pe_meth0 (pe_call G_margins_of (hr.mono (by first | decide | exact Nat.le_refl _ | omega)) (by rfl) T.g_margins_of T.F_margins_of.kp T.b_margins_of .nil pass0 (pa_cons (pv 0) pa_nil)) T.C_Margins T.M_Margins_tight G_Margins_tight (hr.mono (by first | decide | exact Nat.le_refl _ | omega)) T.b_Margins_tight .nil pass0) (pa_cons (pv 1) pa_nil))))
      (pss_one (ps_ret (pe_callTy callTupB (by rfl) T.z_tuple (by decide +kernel) (pa_cons (pe_lc (own := [("number", 3), ("link", 4)])   rfl sc_critical_links.nd (pi_enumB (by rfl) T.z_enumerate (pa_cons (pe_fld (pv 0) rfl) pa_nil)) (blkOk_by (own := [("number", 3), ("link", 4)]) (N := sc_critical_links_N) (sc := defScope s_critical_links) (by decide +kernel)) (fun _ _ _ _ _ => (pg_tupH (n := 2) (by rfl) (pgs_cons (pg_name (i := 3) sc_critical_links.nd rfl (.inl rfl)) (pgs_cons (pg_name (i := 4) sc_critical_links.nd rfl (.inl rfl)) pgs_nil)))) (fun _ _ _ _ _ => (pts_one (pt_val (pe_call G_enters_any (hr.mono (by first | decide | exact Nat.le_refl _ | omega)) (by rfl) T.g_enters_any T.F_enters_any.kp T.b_enters_any .nil pass0 (pa_cons (pv 4) (pa_cons (pv 2) pa_nil)))))) (fun _ _ _ _ _ => (pv 3))) pa_nil)))))), ?_⟩
    simp only [gStr2, gSeqH, tDc_c, tDGet, sDPut, rCat, tBreak, rExtend, tSeq, tAsg, tRet, tRetN, tDrop, tIfS, tNext, tNever, tOp, tUn, tVar, tC, rI0, rI, rU, tTest, tIf, tB, tAnd, tOr, tNot, tAndV, tOrV, tNotV, gName, gSub, gTupH, gCons, gNil, tYes, tCons, tNil, tLst, tTup, tCB, tCall, tMeth, tMake, tFld, sFld, tFor_c, tLc_c, iRng1, iList, iTup, iStr, iSeqB, iEnumB, tM1, tSl, tPart, tNoPart, rSlS, rIxS, tBM, rAppend, tIf, rEq, rNe, scal, hIx, hIxT, hIxB, hSet, hInt, hIntB, hLen, hLenT, hLenB, L2.start, wipe, List.map_cons, List.map_nil, List.set_cons_zero, List.set_cons_succ, List.set_nil, List.length_cons, List.length_nil, List.length_map, List.cons_append, List.nil_append, List.append_nil, List.replicate, List.getElem?_cons_zero, List.getElem?_cons_succ, Option.some.injEq, V.int.injEq, V.bl.injEq, V.ref.injEq, V.str.injEq, List.cons.injEq, exists_eq_left', exists_eq_left, exists_and_left, and_assoc, upd_same, upd_upd, HO.lst.injEq, HO.tup.injEq, atI_0, atI_1, atI_2, atI_3, set_1, set_2, set_3, CDiv, CPow, CMul, List.length_set, Int.reduceToNat, Int.reduceLE, Int.reduceLT, Int.reducePow, Int.reduceNeg, Nat.reduceAdd, Nat.reduceLT, Nat.reduceLeDiff, Nat.reducePow, Nat.zero_add, or_true, true_or, gt_iff_lt, ge_iff_le, and_true, true_and, decide_eq_true_eq, if_true, Bool.false_eq_true, if_false]
    refine ⟨p, n, rows, ls, t, rfl, hN, ok, t6, tc, fun h H1 s1 => ?_, fun h H1 s1 => q2 h H1 s1⟩
    obtain ⟨w1, w2⟩ := q1 h
    refine ⟨_, rfl, ?_⟩
    by_cases hd : dfT rows ls t = none
    · refine iteF' (by rw [decide_eq_true hd]; decide) ?_
      refine ⟨p, n, rows, ls, rfl, hN.same s1, ok, fun m H2 s2 nm hM => ?_⟩
      obtain ⟨dx, dS, dD, dB, as, fs, e1, l1, l2, l3, eS, las, hb, eD, eB, nf⟩ := hM.ex
      refine ⟨m, rfl, dx, fs, e1, nf _ (by decide +kernel) (by decide +kernel) (by decide +kernel) (by decide +kernel), m, rows, ls, rfl, hM, ok.r2, fun D0 H3 s3 nD eD0 => ?_⟩
      refine ⟨D0, _, t, rfl, eD0, Nat.le_trans (List.length_filter_le _ _) (osets_ord ok.r2).2.1, t6, fun D H4 s4 nD4 e2 => ?_⟩
      have s04 := Same.tr s1 (Same.tr s2 (Same.tr s3 s4))
      obtain ⟨ndx, tn, tl, nas, nfs, h1, h2, h3, h4, h5, h6, h7, h8, h9, h10, h11, h12⟩ := (hN.same s04).ex
      have sm : ((tigS rows ls).filter (hasT t)).length ≤ 63 := Nat.le_trans (List.length_filter_le _ _) (Nat.le_trans (List.length_filter_le _ _) (osets_ord ok.r2).2.1)
      have etl : H4 tl = some (.tup (lks ls)) := by rw [lks_strs]; exact h10
      refine ⟨a.c_Network, ndx, nfs, h1, T.C_Network, T.n_Network_links, _, h4, tl, rfl, .inr ⟨_, SqT.of etl, ?_⟩⟩
      refine lcEnumT (xs := lks ls) (fun i D3 H' => H' D3 = some (.lst (ni ((List.range i).filter fun k => ((tigS rows ls).filter (hasT t)).any fun s => !decide (65 + (ls.getD k (0, 0)).1 ∈ s) && decide (65 + (ls.getD k (0, 0)).2 ∈ s)))) ∧ Same H4 H') (fun D3 hD3 => ⟨upd_same, same_new hD3⟩) (fun i D3 H' _ _ z => SqT.of (z.2 _ _ etl)) ?_ ?_
      · rintro i x t' D3 H' hD3 hx ⟨eD3, s3'⟩ ht
        obtain ⟨l, hl0, rfl⟩ := map_at hx
        have hi := (List.getElem?_eq_some_iff.mp hl0).1
        have hlg : ls.getD i (0, 0) = l := by rw [List.getD_eq_getElem?_getD, hl0]; rfl
        have s4' := same_new (o := .tup [.int (i : Nat), .str (lkt l)]) ht
        have s24 := Same.tr s3' s4'
        have l20 := ok.l
        simp only [gStr2, gSeqH, tDc_c, tDGet, sDPut, rCat, tBreak, rExtend, tSeq, tAsg, tRet, tRetN, tDrop, tIfS, tNext, tNever, tOp, tUn, tVar, tC, rI0, rI, rU, tTest, tIf, tB, tAnd, tOr, tNot, tAndV, tOrV, tNotV, gName, gSub, gTupH, gCons, gNil, tYes, tCons, tNil, tLst, tTup, tCB, tCall, tMeth, tMake, tFld, sFld, tFor_c, tLc_c, iRng1, iList, iTup, iStr, iSeqB, iEnumB, tM1, tSl, tPart, tNoPart, rSlS, rIxS, tBM, rAppend, tIf, rEq, rNe, scal, hIx, hIxT, hIxB, hSet, hInt, hIntB, hLen, hLenT, hLenB, L2.start, wipe, List.map_cons, List.map_nil, List.set_cons_zero, List.set_cons_succ, List.set_nil, List.length_cons, List.length_nil, List.length_map, List.cons_append, List.nil_append, List.append_nil, List.replicate, List.getElem?_cons_zero, List.getElem?_cons_succ, Option.some.injEq, V.int.injEq, V.bl.injEq, V.ref.injEq, V.str.injEq, List.cons.injEq, exists_eq_left', exists_eq_left, exists_and_left, and_assoc, upd_same, upd_upd, HO.lst.injEq, HO.tup.injEq, atI_0, atI_1, atI_2, atI_3, set_1, set_2, set_3, CDiv, CPow, CMul, List.length_set, Int.reduceToNat, Int.reduceLE, Int.reduceLT, Int.reducePow, Int.reduceNeg, Nat.reduceAdd, Nat.reduceLT, Nat.reduceLeDiff, Nat.reducePow, Nat.zero_add, or_true, true_or, gt_iff_lt, ge_iff_le, and_true, true_and, decide_eq_true_eq, if_true, Bool.false_eq_true, if_false]
        have lnow : ∀ f : Nat → Bool, ((List.range i).filter f).length ≤ 1000 := fun f => by
          refine Nat.le_trans (List.length_filter_le _ _) ?_
          rw [List.length_range]
          omega
        refine ⟨l, D, _, rfl, s24 _ _ e2, by omega, fun H5 s5 => ?_⟩
        refine ⟨_, rfl, ite2 (fun c => ?_) fun c => ?_⟩
        · refine ⟨_, s5 _ _ (s4' _ _ eD3), by rw [ni_len]; exact small1000 (lnow _), ?_, same_out (Same.tr s24 s5) hD3⟩
          rw [List.range_succ, List.filter_append, List.filter_cons, hlg, if_pos c, List.filter_nil, ni_snoc]
        · rw [List.range_succ, List.filter_append, List.filter_cons, hlg, if_neg c, List.filter_nil, List.append_nil]
          exact ⟨s5 _ _ (s4' _ _ eD3), Same.tr s24 s5⟩
      · rintro D3 H' hD3 ⟨eD3, s3'⟩
        rw [List.length_map] at eD3
        exact ⟨D3, _, rfl, .inl eD3, fun t' H5 s5 _ e5 => w1 hd t' H5 (Same.tr s04 (Same.tr s3' s5)) e5⟩
    · exact iteT' (by rw [decide_eq_false hd]; rfl) (w2 hd H1 s1)
/-- what is refused before anything else is asked -/
def spOut (C CS : Addr) : Sp := fun vs H Q E => ∃ (p : Addr) (n : Nat) (rows : List (List Nat)) (ls : List (Nat × Nat)) (T : List Nat) (v : V), vs = [.ref p, .str (tx T), v] ∧ NetN C H p n rows ls ∧ OkR n rows ls ∧ T.length ≤ 6 ∧ (∀ c ∈ T, c < 1000) ∧ ¬ okT rows T ∧ ∀ H', Same H H' → E (.ref CS) none H'
theorem ok_delivery_out (T : Txt K mg a) : FnOk P w K mg base (L2.CX P w) 9 a.a_delivery a.d_delivery ["network", "targets", "target"] (spOut a.c_Network a.c_NoSet) := by
  have G_require_set := ok_require_set (P := P) (w := w) (base := base) T
  refine T.F_delivery.okX sc_delivery (fun vs H Q E h => ?_) (fun cdv A outer s H vs Q E hr h => ?_)
  · obtain ⟨_, _, _, _, _, _, rfl, _⟩ := h
    rfl
  · obtain ⟨p, n, rows, ls, t, v, rfl, hN, ok, t6, tc, hn, q⟩ := h
    refine ⟨_, (pss_cons (ps_expr (pe_call G_require_set (hr.mono (by first | decide | exact Nat.le_refl _ | omega)) (by rfl) T.g_require_set T.F_require_set.kp T.b_require_set .nil (passes_call (E := E) (takes_of rfl rfl rfl rfl) (fun _ _ _ _ z => z)) (pa_cons (pv 0) (pa_cons (pv 1) pa_nil))))
      pss_never), ?_⟩
    simp only [gStr2, gSeqH, tDc_c, tDGet, sDPut, rCat, tBreak, rExtend, tSeq, tAsg, tRet, tRetN, tDrop, tIfS, tNext, tNever, tOp, tUn, tVar, tC, rI0, rI, rU, tTest, tIf, tB, tAnd, tOr, tNot, tAndV, tOrV, tNotV, gName, gSub, gTupH, gCons, gNil, tYes, tCons, tNil, tLst, tTup, tCB, tCall, tMeth, tMake, tFld, sFld, tFor_c, tLc_c, iRng1, iList, iTup, iStr, iSeqB, iEnumB, tM1, tSl, tPart, tNoPart, rSlS, rIxS, tBM, rAppend, tIf, rEq, rNe, scal, hIx, hIxT, hIxB, hSet, hInt, hIntB, hLen, hLenT, hLenB, L2.start, wipe, List.map_cons, List.map_nil, List.set_cons_zero, List.set_cons_succ, List.set_nil, List.length_cons, List.length_nil, List.length_map, List.cons_append, List.nil_append, List.append_nil, List.replicate, List.getElem?_cons_zero, List.getElem?_cons_succ, Option.some.injEq, V.int.injEq, V.bl.injEq, V.ref.injEq, V.str.injEq, List.cons.injEq, exists_eq_left', exists_eq_left, exists_and_left, and_assoc, upd_same, upd_upd, HO.lst.injEq, HO.tup.injEq, atI_0, atI_1, atI_2, atI_3, set_1, set_2, set_3, CDiv, CPow, CMul, List.length_set, Int.reduceToNat, Int.reduceLE, Int.reduceLT, Int.reducePow, Int.reduceNeg, Nat.reduceAdd, Nat.reduceLT, Nat.reduceLeDiff, Nat.reducePow, Nat.zero_add, or_true, true_or, gt_iff_lt, ge_iff_le, and_true, true_and, decide_eq_true_eq, if_true, Bool.false_eq_true, if_false]
    exact ⟨p, n, rows, ls, t, rfl, hN, ok, t6, tc, fun h1 h2 => absurd ⟨h1, h2⟩ hn, fun _ H1 s1 => q H1 s1⟩
theorem ok_complete_out (T : Txt K mg a) : FnOk P w K mg base (L2.CX P w) 9 a.a_is_complete_for a.d_is_complete_for ["network", "targets", "transmissions"] (spOut a.c_Network a.c_NoSet) := by
  have G_require_set := ok_require_set (P := P) (w := w) (base := base) T
  refine T.F_is_complete_for.okX sc_is_complete_for (fun vs H Q E h => ?_) (fun cdv A outer s H vs Q E hr h => ?_)
  · obtain ⟨_, _, _, _, _, _, rfl, _⟩ := h
    rfl
  · obtain ⟨p, n, rows, ls, t, v, rfl, hN, ok, t6, tc, hn, q⟩ := h
    refine ⟨_, (pss_cons (ps_expr (pe_call G_require_set (hr.mono (by first | decide | exact Nat.le_refl _ | omega)) (by rfl) T.g_require_set T.F_require_set.kp T.b_require_set .nil (passes_call (E := E) (takes_of rfl rfl rfl rfl) (fun _ _ _ _ z => z)) (pa_cons (pv 0) (pa_cons (pv 1) pa_nil))))
      pss_never), ?_⟩
    simp only [gStr2, gSeqH, tDc_c, tDGet, sDPut, rCat, tBreak, rExtend, tSeq, tAsg, tRet, tRetN, tDrop, tIfS, tNext, tNever, tOp, tUn, tVar, tC, rI0, rI, rU, tTest, tIf, tB, tAnd, tOr, tNot, tAndV, tOrV, tNotV, gName, gSub, gTupH, gCons, gNil, tYes, tCons, tNil, tLst, tTup, tCB, tCall, tMeth, tMake, tFld, sFld, tFor_c, tLc_c, iRng1, iList, iTup, iStr, iSeqB, iEnumB, tM1, tSl, tPart, tNoPart, rSlS, rIxS, tBM, rAppend, tIf, rEq, rNe, scal, hIx, hIxT, hIxB, hSet, hInt, hIntB, hLen, hLenT, hLenB, L2.start, wipe, List.map_cons, List.map_nil, List.set_cons_zero, List.set_cons_succ, List.set_nil, List.length_cons, List.length_nil, List.length_map, List.cons_append, List.nil_append, List.append_nil, List.replicate, List.getElem?_cons_zero, List.getElem?_cons_succ, Option.some.injEq, V.int.injEq, V.bl.injEq, V.ref.injEq, V.str.injEq, List.cons.injEq, exists_eq_left', exists_eq_left, exists_and_left, and_assoc, upd_same, upd_upd, HO.lst.injEq, HO.tup.injEq, atI_0, atI_1, atI_2, atI_3, set_1, set_2, set_3, CDiv, CPow, CMul, List.length_set, Int.reduceToNat, Int.reduceLE, Int.reduceLT, Int.reducePow, Int.reduceNeg, Nat.reduceAdd, Nat.reduceLT, Nat.reduceLeDiff, Nat.reducePow, Nat.zero_add, or_true, true_or, gt_iff_lt, ge_iff_le, and_true, true_and, decide_eq_true_eq, if_true, Bool.false_eq_true, if_false]
    exact ⟨p, n, rows, ls, t, rfl, hN, ok, t6, tc, fun h1 h2 => absurd ⟨h1, h2⟩ hn, fun _ H1 s1 => q H1 s1⟩
end
end AK
set_option Elab.async false
set_option linter.all false
set_option maxRecDepth 100000
set_option maxHeartbeats 4000000
namespace AK
open PySem PySem.Spec PyProof.Rows L2
/-- the first deficient set with a target, as the law finds it -/
def fdT (rows : List (List Nat)) (ls : List (Nat × Nat)) (T : List Nat) : List Nat := ((osets rows.length).find? fun s => (s.any fun c => decide (c ∈ T)) && lacks rows ls s).getD []
section
variable {P : Program} {w : World} {K : PySem.W.Frag} {mg : Str → Option Value} {base : Heap} {a : Ads}
def spFdT : Sp := fun vs H Q _ => ∃ (d : Addr) (n : Nat) (rows : List (List Nat)) (ls : List (Nat × Nat)) (T : List Nat), vs = [.ref d, .str (tx T)] ∧ DNet H d n rows ls ∧ rows.length ≤ 6 ∧ (∀ r ∈ rows, r.length ≤ 4 ∧ ∀ m ∈ r, m < 64) ∧ ls.length ≤ 20 ∧ ∀ H', Same H H' → Q (.str (tx (fdT rows ls T))) H'
theorem ok_law_first_set (T : Txt K mg a) : FnOk P w K mg base CX0 5 a.a_law_first_set a.d_law_first_set ["network", "targets"] spFdT := by
  have G_law_sets := ok_law_sets (P := P) (w := w) (base := base) T
  have G_law_entering := ok_law_entering (P := P) (w := w) (base := base) T
  have G_law_demand := ok_law_demand (P := P) (w := w) (base := base) T
  refine T.F_law_first_set.ok sc_law_first_set (fun vs H Q E h => ?_) (fun cdv A outer s H vs Q E hr h => ?_)
  · obtain ⟨_, _, _, _, _, rfl, _⟩ := h
    rfl
  · obtain ⟨d, n, rows, ls, t, rfl, hN, h6, hr4, h20, q⟩ := h
    refine ⟨_, (pss_cons (ps_for PassesOwn.never rfl (pi_list (pe_call G_law_sets (hr.mono (by first | decide | exact Nat.le_refl _ | omega)) (by rfl) T.g_law_sets T.F_law_sets.kp T.b_law_sets .nil pass0 (pa_cons (pe_callB callLen (by rfl) T.z_len PySem.boot_len (pa_cons (pe_dget (units1 hr) (pv 0) pe_str (fun _ _ => rfl)) pa_nil)) pa_nil))) (pg_name (i := 2) sc_law_first_set.nd rfl (.inl rfl))
      (pss_one (ps_if (PW.pt (pw_and (pt_val (pe_callB (cr_any rfl) (by rfl) T.z_any (by decide +kernel) (pa_cons (pe_lc (own := [("letter", 3)]) (g := gName 3) (tt := tYes) rfl sc_law_first_set.nd (pi_str (pv 2)) (blkOk_by (own := [("letter", 3)]) (N := sc_law_first_set_N) (sc := defScope s_law_first_set) (by decide +kernel)) (fun _ _ _ _ _ => (pg_name (i := 3) sc_law_first_set.nd rfl (.inl rfl))) (fun _ _ _ _ _ => pts_nil) (fun _ _ _ _ _ => (pe_cmpR op_in_sign (pv 3) (pv 1) rfl))) pa_nil))) (pw_and1 (pt_cmpR op_lt (pe_callB callLen (by rfl) T.z_len PySem.boot_len (pa_cons (pe_call G_law_entering (hr.mono (by first | decide | exact Nat.le_refl _ | omega)) (by rfl) T.g_law_entering T.F_law_entering.kp T.b_law_entering .nil pass0 (pa_cons (pv 0) (pa_cons (pv 2) pa_nil))) pa_nil)) (pe_call G_law_demand (hr.mono (by first | decide | exact Nat.le_refl _ | omega)) (by rfl) T.g_law_demand T.F_law_demand.kp T.b_law_demand .nil pass0 (pa_cons (pv 0) (pa_cons (pv 2) pa_nil))) (nomark _)))))
      (pss_one (ps_ret (pv 2)))
      pss_nil)))
      (pss_one (ps_ret pe_str))), ?_⟩
    simp only [gStr2, gSeqH, tDc_c, tDGet, sDPut, rCat, tBreak, rExtend, tSeq, tAsg, tRet, tRetN, tDrop, tIfS, tNext, tNever, tOp, tUn, tVar, tC, rI0, rI, rU, tTest, tIf, tB, tAnd, tOr, tNot, tAndV, tOrV, tNotV, gName, gSub, gTupH, gCons, gNil, tYes, tCons, tNil, tLst, tTup, tCB, tCall, tMeth, tMake, tFld, sFld, tFor_c, tLc_c, iRng1, iList, iTup, iStr, iSeqB, iEnumB, tM1, tSl, tPart, tNoPart, rSlS, rIxS, tBM, rAppend, tIf, rEq, rNe, scal, hIx, hIxT, hIxB, hSet, hInt, hIntB, hLen, hLenT, hLenB, L2.start, wipe, List.map_cons, List.map_nil, List.set_cons_zero, List.set_cons_succ, List.set_nil, List.length_cons, List.length_nil, List.length_map, List.cons_append, List.nil_append, List.append_nil, List.replicate, List.getElem?_cons_zero, List.getElem?_cons_succ, Option.some.injEq, V.int.injEq, V.bl.injEq, V.ref.injEq, V.str.injEq, List.cons.injEq, exists_eq_left', exists_eq_left, exists_and_left, and_assoc, upd_same, upd_upd, HO.lst.injEq, HO.tup.injEq, atI_0, atI_1, atI_2, atI_3, set_1, set_2, set_3, CDiv, CPow, CMul, List.length_set, Int.reduceToNat, Int.reduceLE, Int.reduceLT, Int.reducePow, Int.reduceNeg, Nat.reduceAdd, Nat.reduceLT, Nat.reduceLeDiff, Nat.reducePow, Nat.zero_add, or_true, true_or, gt_iff_lt, ge_iff_le, and_true, true_and, decide_eq_true_eq, if_true, Bool.false_eq_true, if_false]
    obtain ⟨an, al, hR, hl, g⟩ := hN.gets
    obtain ⟨xs, ex, lx, hx⟩ := hR.at
    rw [List.length_map] at lx
    refine ⟨_, (g _ (Same.refl _)).2.1, an, rfl, xs, ex, ?_⟩
    rw [lx]
    refine ⟨rows.length, rfl, h6, fun D H1 s1 nD eD => ⟨D, rfl, ⟨_, SqL.of eD⟩, ?_⟩⟩
    refine forLst (xs := tsL (osets rows.length)) (fun i σ H' => (∃ v v3, σ = [some (.ref d), some (.str (tx t)), v, v3]) ∧ Same H1 H' ∧ ∀ s ∈ (osets rows.length).take i, ((s.any fun c => decide (c ∈ t)) && lacks rows ls s) = false) ⟨⟨_, _, rfl⟩, Same.refl _, fun s h => by rw [List.take_zero] at h; cases h⟩ (fun i σ H' _ z => SqL.of (z.2.1 _ _ eD)) ?_ ?_
    · rintro i x σ H' hx ⟨⟨v, v3, rfl⟩, s2, hno⟩
      obtain ⟨st, hst, rfl⟩ := tsL_at hx
      have s12 := Same.tr s1 s2
      have st6 : st.length ≤ 6 := osets_six h6 (List.mem_of_getElem? hst)
      have lts : lt (tx st) = st := lt_tx st
      have nxt : ((st.any fun c => decide (c ∈ t)) && lacks rows ls st) = false → ∀ s ∈ (osets rows.length).take (i + 1), ((s.any fun c => decide (c ∈ t)) && lacks rows ls s) = false := fun h s hs => by
        rw [take_s hst] at hs
        rcases List.mem_append.mp hs with z | z
        · exact hno s z
        · rw [List.mem_singleton.mp z]
          exact h
      simp only [gStr2, gSeqH, tDc_c, tDGet, sDPut, rCat, tBreak, rExtend, tSeq, tAsg, tRet, tRetN, tDrop, tIfS, tNext, tNever, tOp, tUn, tVar, tC, rI0, rI, rU, tTest, tIf, tB, tAnd, tOr, tNot, tAndV, tOrV, tNotV, gName, gSub, gTupH, gCons, gNil, tYes, tCons, tNil, tLst, tTup, tCB, tCall, tMeth, tMake, tFld, sFld, tFor_c, tLc_c, iRng1, iList, iTup, iStr, iSeqB, iEnumB, tM1, tSl, tPart, tNoPart, rSlS, rIxS, tBM, rAppend, tIf, rEq, rNe, scal, hIx, hIxT, hIxB, hSet, hInt, hIntB, hLen, hLenT, hLenB, L2.start, wipe, List.map_cons, List.map_nil, List.set_cons_zero, List.set_cons_succ, List.set_nil, List.length_cons, List.length_nil, List.length_map, List.cons_append, List.nil_append, List.append_nil, List.replicate, List.getElem?_cons_zero, List.getElem?_cons_succ, Option.some.injEq, V.int.injEq, V.bl.injEq, V.ref.injEq, V.str.injEq, List.cons.injEq, exists_eq_left', exists_eq_left, exists_and_left, and_assoc, upd_same, upd_upd, HO.lst.injEq, HO.tup.injEq, atI_0, atI_1, atI_2, atI_3, set_1, set_2, set_3, CDiv, CPow, CMul, List.length_set, Int.reduceToNat, Int.reduceLE, Int.reduceLT, Int.reducePow, Int.reduceNeg, Nat.reduceAdd, Nat.reduceLT, Nat.reduceLeDiff, Nat.reducePow, Nat.zero_add, or_true, true_or, gt_iff_lt, ge_iff_le, and_true, true_and, decide_eq_true_eq, if_true, Bool.false_eq_true, if_false]
      refine lcStr (x := tx st) (fun j D2 H2 => H2 D2 = some (.lst (((st.take j).map fun c => decide (c ∈ t)).map V.bl)) ∧ Same H' H2) (fun D2 hD2 => ⟨upd_same, same_new hD2⟩) ?_ ?_
      · rintro j c D2 H2 hD2 hc ⟨eD2, s3⟩
        have hc : st[j]? = some c := by rw [← lts]; exact hc
        refine ⟨rfl, ?_⟩
        simp only [gStr2, gSeqH, tDc_c, tDGet, sDPut, rCat, tBreak, rExtend, tSeq, tAsg, tRet, tRetN, tDrop, tIfS, tNext, tNever, tOp, tUn, tVar, tC, rI0, rI, rU, tTest, tIf, tB, tAnd, tOr, tNot, tAndV, tOrV, tNotV, gName, gSub, gTupH, gCons, gNil, tYes, tCons, tNil, tLst, tTup, tCB, tCall, tMeth, tMake, tFld, sFld, tFor_c, tLc_c, iRng1, iList, iTup, iStr, iSeqB, iEnumB, tM1, tSl, tPart, tNoPart, rSlS, rIxS, tBM, rAppend, tIf, rEq, rNe, scal, hIx, hIxT, hIxB, hSet, hInt, hIntB, hLen, hLenT, hLenB, L2.start, wipe, List.map_cons, List.map_nil, List.set_cons_zero, List.set_cons_succ, List.set_nil, List.length_cons, List.length_nil, List.length_map, List.cons_append, List.nil_append, List.append_nil, List.replicate, List.getElem?_cons_zero, List.getElem?_cons_succ, Option.some.injEq, V.int.injEq, V.bl.injEq, V.ref.injEq, V.str.injEq, List.cons.injEq, exists_eq_left', exists_eq_left, exists_and_left, and_assoc, upd_same, upd_upd, HO.lst.injEq, HO.tup.injEq, atI_0, atI_1, atI_2, atI_3, set_1, set_2, set_3, CDiv, CPow, CMul, List.length_set, Int.reduceToNat, Int.reduceLE, Int.reduceLT, Int.reducePow, Int.reduceNeg, Nat.reduceAdd, Nat.reduceLT, Nat.reduceLeDiff, Nat.reducePow, Nat.zero_add, or_true, true_or, gt_iff_lt, ge_iff_le, and_true, true_and, decide_eq_true_eq, if_true, Bool.false_eq_true, if_false]
        refine ⟨c, rfl, _, eD2, ?_, ?_, same_out s3 hD2⟩
        · rw [List.length_map, List.length_map, List.length_take]
          exact small1000 (by omega)
        · rw [take_s hc, List.map_append, List.map_append]
          rfl
      · rintro D2 H2 hD2 ⟨eD2, s3⟩
        rw [lts, List.take_of_length_le (Nat.le_refl _)] at eD2
        refine ⟨D2, _, rfl, SqL.of eD2, ?_⟩
        have hb : ((st.map fun c => decide (c ∈ t)).any id) = st.any fun c => decide (c ∈ t) := by
          rw [List.any_map]
          rfl
        rw [hb]
        have s13 := Same.tr s12 s3
        refine ⟨_, rfl, ite2 (fun c1 => ?_) fun c1 => ?_⟩
        · refine ⟨d, n, rows, ls, st, rfl, hN.same s13, h20, fun D3 H3 s4 _ e3 => ⟨D3, rfl, _, e3, ?_⟩⟩
          refine ⟨d, n, rows, ls, st, rfl, hN.same (Same.tr s13 s4), h6, (by first | exact hr4 | exact fun r hr => (hr4 r hr)), fun H4 s5 => ⟨_, rfl, ?_⟩⟩
          rw [ni_len]
          have s15 := Same.tr (Same.tr s13 s4) s5
          by_cases hc : lacks rows ls st = true
          · refine ite2 (fun _ => ?_) fun c => absurd (of_decide_eq_true hc) c
            have e : fdT rows ls t = st := by
              unfold fdT
              rw [show (osets rows.length).find? (fun s => (s.any fun c => decide (c ∈ t)) && lacks rows ls s) = some st from ?_]
              · rfl
              · obtain ⟨hi, e⟩ := List.getElem?_eq_some_iff.mp hst
                rw [List.find?_eq_some_iff_getElem]
                refine ⟨by rw [c1, hc]; rfl, i, hi, e, fun j hj => ?_⟩
                rw [hno _ (List.mem_of_getElem? (i := j) (by rw [List.getElem?_take, if_pos hj]; exact List.getElem?_eq_getElem (by omega)))]
                rfl
            have z := q H4 s15
            rw [e] at z
            exact z
          · refine ite2 (fun c => absurd (decide_eq_true c) hc) fun _ => ⟨⟨_, rfl⟩, Same.tr s2 (Same.tr s3 (Same.tr s4 s5)), nxt ?_⟩
            rw [Bool.eq_false_iff.mpr hc, Bool.and_false]
        · refine ⟨⟨_, rfl⟩, Same.tr s2 s3, nxt ?_⟩
          rw [Bool.eq_false_iff.mpr c1, Bool.false_and]
    · rintro σ H' ⟨⟨v, v3, rfl⟩, s2, hno⟩
      rw [List.length_map, List.take_of_length_le (Nat.le_refl _)] at hno
      simp only [tSeq, tAsg, tRet, tRetN, tDrop, tIfS, tNext, tNever, tOp, tUn, tVar, tC, rI0, rI, rU, tTest, tIf, tB, tAnd, tOr, tNot, tAndV, tOrV, tNotV, gName, gSub, gTupH, gCons, gNil, tYes, tCons, tNil, tLst, tTup, tCB, tCall, tMeth, tMake, tFld, sFld, tFor_c, tLc_c, iRng1, iList, iTup, iStr, iSeqB, iEnumB, tM1, tSl, tPart, tNoPart, rSlS, rIxS, tBM, rAppend, tIf, rEq, rNe, scal, hIx, hIxT, hIxB, hSet, hInt, hIntB, hLen, hLenT, hLenB, L2.start, wipe, List.map_cons, List.map_nil, List.set_cons_zero, List.set_cons_succ, List.set_nil, List.length_cons, List.length_nil, List.length_map, List.cons_append, List.nil_append, List.append_nil, List.replicate, List.getElem?_cons_zero, List.getElem?_cons_succ, Option.some.injEq, V.int.injEq, V.bl.injEq, V.ref.injEq, V.str.injEq, List.cons.injEq, exists_eq_left', exists_eq_left, exists_and_left, and_assoc, upd_same, upd_upd, HO.lst.injEq, HO.tup.injEq, atI_0, atI_1, atI_2, atI_3, set_1, set_2, set_3, CDiv, CPow, CMul, List.length_set, Int.reduceToNat, Int.reduceLE, Int.reduceLT, Int.reducePow, Int.reduceNeg, Nat.reduceAdd, Nat.reduceLT, Nat.reduceLeDiff, Nat.reducePow, Nat.zero_add, or_true, true_or, gt_iff_lt, ge_iff_le, and_true, true_and, decide_eq_true_eq, if_true, Bool.false_eq_true, if_false]
      have e : fdT rows ls t = [] := by
        unfold fdT
        rw [List.find?_eq_none.mpr fun s hs => by rw [hno s hs]; decide]
        rfl
      have z := q H' (Same.tr s1 s2)
      rw [e] at z
      exact z
end
end AK
set_option Elab.async false
set_option linter.all false
set_option maxRecDepth 100000
set_option maxHeartbeats 4000000
namespace AK
open PySem PySem.Spec PyProof.Rows L2
theorem hasT_comm (T s : List Nat) : (s.any fun c => decide (c ∈ T)) = hasT T s := by
  unfold hasT
  rw [Bool.eq_iff_iff, List.any_eq_true, List.any_eq_true]
  constructor
  · rintro ⟨c, h1, h2⟩
    exact ⟨c, of_decide_eq_true h2, decide_eq_true h1⟩
  · rintro ⟨c, h1, h2⟩
    exact ⟨c, of_decide_eq_true h2, decide_eq_true h1⟩
theorem lacks_bey {rows : List (List Nat)} (r6 : rows.length ≤ 6) (r1 : 1 ≤ rows.length) (ls : List (Nat × Nat)) {s : List Nat} (hs : s ∈ osets rows.length) : decide (bey rows ls s < 0) = lacks rows ls s := by
  unfold bey lacks
  rw [entL_eq, dmd_eq r6 r1 hs]
  exact decide_eq_decide.mpr (by omega)
theorem dfT_fd {rows : List (List Nat)} (r6 : rows.length ≤ 6) (r1 : 1 ≤ rows.length) (ls : List (Nat × Nat)) (T : List Nat) : dfT rows ls T = if fdT rows ls T = [] then none else some (fdT rows ls T) := by
  unfold dfT fdT defS
  rw [List.filter_filter]
  have e : ∀ s ∈ osets rows.length, (hasT T s && decide (bey rows ls s < 0)) = ((s.any fun c => decide (c ∈ T)) && lacks rows ls s) := fun s hs => by rw [hasT_comm, lacks_bey r6 r1 ls hs]
  rw [List.filter_congr e, List.head?_filter]
  cases f : (osets rows.length).find? fun s => (s.any fun c => decide (c ∈ T)) && lacks rows ls s with
  | none => rfl
  | some s =>
    rw [if_neg]
    · rfl
    · exact (osets_b r6 (List.mem_of_find?_eq_some f)).1
theorem fdT_nil {rows : List (List Nat)} (r6 : rows.length ≤ 6) (ls : List (Nat × Nat)) (T : List Nat) : fdT rows ls T = [] ↔ ∀ s ∈ osets rows.length, hasT T s = true → lacks rows ls s = false := by
  unfold fdT
  constructor
  · intro h s hs ht
    cases f : (osets rows.length).find? fun s => (s.any fun c => decide (c ∈ T)) && lacks rows ls s with
    | none =>
      have := List.find?_eq_none.mp f s hs
      rw [hasT_comm, ht, Bool.true_and] at this
      exact Bool.eq_false_iff.mpr this
    | some s' =>
      rw [f] at h
      exact absurd h (osets_b r6 (List.mem_of_find?_eq_some f)).1
  · intro h
    rw [List.find?_eq_none.mpr fun s hs z => by
      rw [hasT_comm, Bool.and_eq_true] at z
      rw [h s hs z.1] at z
      exact absurd z.2 (by decide)]
    rfl
theorem filt_range {α : Type} (p : α → Bool) (d : α) : ∀ L : List α, ((List.range L.length).filter fun k => p (L.getD k d)).length = (L.filter p).length
  | [] => rfl
  | x :: L => by
    have ih := filt_range p d L
    rw [List.length_cons, List.range_succ_eq_map, List.filter_cons, List.filter_map, List.filter_cons]
    have e : ((fun k => p ((x :: L).getD k d)) ∘ Nat.succ) = fun k => p (L.getD k d) := by
      funext k
      rfl
    rw [e]
    show (if p x = true then _ else _ : List Nat).length = _
    split
    · rw [List.length_cons, List.length_cons, List.length_map, ih]
    · rw [List.length_map, ih]
/-- the links without the k-th -/
def less (ls : List (Nat × Nat)) (k : Nat) : List (Nat × Nat) := ls.take k ++ ls.drop (k + 1)
theorem ents_less {ls : List (Nat × Nat)} {k : Nat} (h : k < ls.length) (s : List Nat) : (ents ls s).length = (ents (less ls k) s).length + if entl s (ls.getD k (0, 0)) = true then 1 else 0 := by
  unfold ents
  rw [filt_range (entl s) (0, 0) ls, filt_range (entl s) (0, 0) (less ls k)]
  have e : ls = ls.take k ++ (ls.getD k (0, 0) :: ls.drop (k + 1)) := by
    rw [List.getD_eq_getElem?_getD, List.getElem?_eq_getElem h]
    show ls = ls.take k ++ (ls[k] :: ls.drop (k + 1))
    rw [← List.drop_eq_getElem_cons h, List.take_append_drop]
  conv => lhs; rw [e]
  unfold less
  rw [List.filter_append, List.filter_append, List.filter_cons, List.length_append, List.length_append]
  split
  · rw [List.length_cons]
    omega
  · rfl
theorem crit_iff {rows : List (List Nat)} (r6 : rows.length ≤ 6) (r1 : 1 ≤ rows.length) {ls : List (Nat × Nat)} {T : List Nat} (h0 : fdT rows ls T = []) {k : Nat} (hk : k < ls.length) : (((tigS rows ls).filter (hasT T)).any fun s => !decide (65 + (ls.getD k (0, 0)).1 ∈ s) && decide (65 + (ls.getD k (0, 0)).2 ∈ s)) = decide (¬ fdT rows (less ls k) T = []) := by
  rw [Bool.eq_iff_iff, List.any_eq_true, decide_eq_true_iff]
  have hb : ∀ s ∈ osets rows.length, (bey rows ls s = ((ents ls s).length : Int) - demand rows s) := fun s hs => by
    unfold bey
    rw [entL_eq, dmd_eq r6 r1 hs]
  constructor
  · rintro ⟨s, hs, he⟩ hn
    obtain ⟨h1, h2⟩ := List.mem_filter.mp hs
    obtain ⟨h3, h4⟩ := List.mem_filter.mp h1
    have h4 := of_decide_eq_true h4
    rw [hb s h3] at h4
    have he : entl s (ls.getD k (0, 0)) = true := by
      unfold entl
      rw [Bool.and_comm]
      exact he
    have hl := ents_less hk s
    rw [if_pos he] at hl
    have := (fdT_nil r6 (less ls k) T).mp hn s h3 h2
    unfold lacks at this
    have := of_decide_eq_false this
    omega
  · intro hn
    have : ¬ ∀ s ∈ osets rows.length, hasT T s = true → lacks rows (less ls k) s = false := fun z => hn ((fdT_nil r6 _ T).mpr z)
    have : ∃ s, s ∈ osets rows.length ∧ hasT T s = true ∧ lacks rows (less ls k) s = true := Classical.byContradiction fun z => this fun s h1 h2 => by
      cases e : lacks rows (less ls k) s with
      | false => rfl
      | true => exact absurd ⟨s, h1, h2, e⟩ z
    obtain ⟨s, h1, h2, h3⟩ := this
    have h0 := (fdT_nil r6 ls T).mp h0 s h1 h2
    unfold lacks at h0 h3
    have h0 := of_decide_eq_false h0
    have h3 := of_decide_eq_true h3
    have hl := ents_less hk s
    have he : entl s (ls.getD k (0, 0)) = true := Classical.byContradiction fun z => by
      rw [if_neg z] at hl
      omega
    rw [if_pos he] at hl
    refine ⟨s, List.mem_filter.mpr ⟨List.mem_filter.mpr ⟨h1, decide_eq_true ?_⟩, h2⟩, ?_⟩
    · rw [hb s h1]
      omega
    · unfold entl at he
      rw [Bool.and_comm] at he
      exact he
section
variable {P : Program} {w : World} {K : PySem.W.Frag} {mg : Str → Option Value} {base : Heap} {a : Ads}
def spLCr : Sp := fun vs H Q _ => ∃ (d : Addr) (n : Nat) (rows : List (List Nat)) (ls : List (Nat × Nat)) (T : List Nat), vs = [.ref d, .str (tx T)] ∧ DNet H d n rows ls ∧ rows.length ≤ 6 ∧ 1 ≤ rows.length ∧ (∀ r ∈ rows, r.length ≤ 4 ∧ ∀ m ∈ r, m < 64) ∧ ls.length ≤ 20 ∧
  (fdT rows ls T = [] → ∀ t H', Same H H' → H' t = some (.tup (ni (critL rows ls T))) → Q (.ref t) H') ∧ (fdT rows ls T ≠ [] → ∀ H', Same H H' → Q .non H')
theorem ok_law_critical (T : Txt K mg a) : FnOk P w K mg base CX0 6 a.a_law_critical a.d_law_critical ["network", "targets"] spLCr := by
  have G_law_first_set := ok_law_first_set (P := P) (w := w) (base := base) T
  refine T.F_law_critical.ok sc_law_critical (fun vs H Q E h => ?_) (fun cdv A outer s H vs Q E hr h => ?_)
  · obtain ⟨_, _, _, _, _, rfl, _⟩ := h
    rfl
  · obtain ⟨d, n, rows, ls, t, rfl, hN, r6, r1, hr4, h20, q1, q2⟩ := h
    refine ⟨_, (pss_cons (ps_if (pt_cmpR op_ne (pe_call G_law_first_set (hr.mono (by first | decide | exact Nat.le_refl _ | omega)) (by rfl) T.g_law_first_set T.F_law_first_set.kp T.b_law_first_set .nil pass0 (pa_cons (pv 0) (pa_cons (pv 1) pa_nil))) pe_str (nomark _))
      (pss_one (ps_ret pe_non))
      pss_nil)
      (pss_cons (ps_set (i := 2) sc_law_critical.nd rfl (.inl rfl) (pe_lst pa_nil))
      (pss_cons (ps_for PassesOwn.never rfl (pi_range1 (by rfl) T.z_range (pa_cons (pe_callB callLen (by rfl) T.z_len PySem.boot_len (pa_cons (pe_dget (units1 hr) (pv 0) pe_str (fun _ _ => rfl)) pa_nil)) pa_nil)) (pg_name (i := 3) sc_law_critical.nd rfl (.inl rfl))
      (pss_cons (ps_set (i := 4) sc_law_critical.nd rfl (.inl rfl) (pe_op op_cat (pe_slice sl_list (pe_dget (units1 hr) (pv 0) pe_str (fun _ _ => rfl)) po_none (po_some (pv 3))) (pe_slice sl_list (pe_dget (units1 hr) (pv 0) pe_str (fun _ _ => rfl)) (po_some (pe_op op_add (pv 3) pe_int)) po_none)))
      (pss_cons (ps_set (i := 5) sc_law_critical.nd rfl (.inl rfl) (pe_disp (pps_cons pe_str (pe_dget (units1 hr) (pv 0) pe_str (fun _ _ => rfl)) (pps_cons pe_str (pe_dget (units1 hr) (pv 0) pe_str (fun _ _ => rfl)) (pps_cons pe_str (pv 4) pps_nil))) (by rfl) (by rfl) (fun z => by cases z) (by decide)))
      (pss_one (ps_if (pt_cmpR op_ne (pe_call G_law_first_set (hr.mono (by first | decide | exact Nat.le_refl _ | omega)) (by rfl) T.g_law_first_set T.F_law_first_set.kp T.b_law_first_set .nil pass0 (pa_cons (pv 5) (pa_cons (pv 1) pa_nil))) pe_str (nomark _))
      (pss_one (ps_expr (pe_bm PySem.F.plainAttrs_list PySem.F.slot_list_append PySem.F.type_list_append mt_append (pv 2) (pa_cons (pv 3) pa_nil))))
      pss_nil)))))
      (pss_one (ps_ret (pe_callTy callTupB (by rfl) T.z_tuple (by decide +kernel) (pa_cons (pv 2) pa_nil))))))), ?_⟩
    simp only [gStr2, gSeqH, tDc_c, tDGet, sDPut, rCat, tBreak, rExtend, tSeq, tAsg, tRet, tRetN, tDrop, tIfS, tNext, tNever, tOp, tUn, tVar, tC, rI0, rI, rU, tTest, tIf, tB, tAnd, tOr, tNot, tAndV, tOrV, tNotV, gName, gSub, gTupH, gCons, gNil, tYes, tCons, tNil, tLst, tTup, tCB, tCall, tMeth, tMake, tFld, sFld, tFor_c, tLc_c, iRng1, iList, iTup, iStr, iSeqB, iEnumB, tM1, tSl, tPart, tNoPart, rSlS, rIxS, tBM, rAppend, tIf, rEq, rNe, scal, hIx, hIxT, hIxB, hSet, hInt, hIntB, hLen, hLenT, hLenB, L2.start, wipe, List.map_cons, List.map_nil, List.set_cons_zero, List.set_cons_succ, List.set_nil, List.length_cons, List.length_nil, List.length_map, List.cons_append, List.nil_append, List.append_nil, List.replicate, List.getElem?_cons_zero, List.getElem?_cons_succ, Option.some.injEq, V.int.injEq, V.bl.injEq, V.ref.injEq, V.str.injEq, List.cons.injEq, exists_eq_left', exists_eq_left, exists_and_left, and_assoc, upd_same, upd_upd, HO.lst.injEq, HO.tup.injEq, atI_0, atI_1, atI_2, atI_3, set_1, set_2, set_3, CDiv, CPow, CMul, List.length_set, Int.reduceToNat, Int.reduceLE, Int.reduceLT, Int.reducePow, Int.reduceNeg, Nat.reduceAdd, Nat.reduceLT, Nat.reduceLeDiff, Nat.reducePow, Nat.zero_add, or_true, true_or, gt_iff_lt, ge_iff_le, and_true, true_and, decide_eq_true_eq, if_true, Bool.false_eq_true, if_false]
    refine ⟨d, n, rows, ls, t, rfl, hN, r6, hr4, h20, fun H1 s1 => ⟨rfl, ?_⟩⟩
    have hne : ∀ L : List Nat, (V.str (tx L) = V.str (Str.ofString "")) ↔ L = [] := fun L => ⟨fun z => tx_inj ((V.str.inj z).trans (show Str.ofString "" = tx [] from by decide +kernel)), fun z => by rw [z]; exact congrArg V.str (show tx [] = Str.ofString "" from by decide +kernel)⟩
    by_cases h0 : fdT rows ls t = []
    · refine iteF' (by rw [decide_eq_true ((hne _).mpr h0)]; decide) ?_
      refine ⟨Nat.zero_le _, fun F hF => ?_⟩
      have s2 := same_new (o := .lst []) hF
      have eF := upd_same (H := H1) (a := F) (o := .lst [])
      generalize upd H1 F (.lst []) = H2 at s2 eF
      have s02 := Same.tr s1 s2
      have hF0 : H F = none := s1.free hF
      obtain ⟨an, al, hR, hl, g⟩ := hN.gets
      refine ⟨_, (g _ s02).2.2, al, rfl, _, s02 _ _ hl, by rw [show (lks ls).length = ls.length from List.length_map _]; omega, by rw [show (lks ls).length = ls.length from List.length_map _]; omega, ?_⟩
      rw [show (lks ls).length = ls.length from List.length_map _, Int.toNat_natCast]
      refine forRng (n := ls.length) (fun i σ H' => (∃ v3 v4 v5 : Option V, σ = [some (.ref d), some (.str (tx t)), some (.ref F), v3, v4, v5]) ∧ Same H H' ∧ H' F = some (.lst (ni ((List.range i).filter fun k => decide (¬ fdT rows (less ls k) t = []))))) ⟨⟨_, _, _, rfl⟩, s02, eF⟩ ?_ ?_
      · rintro i σ H3 hi ⟨⟨v3, v4, v5, rfl⟩, s3, eF3⟩
        simp only [gStr2, gSeqH, tDc_c, tDGet, sDPut, rCat, tBreak, rExtend, tSeq, tAsg, tRet, tRetN, tDrop, tIfS, tNext, tNever, tOp, tUn, tVar, tC, rI0, rI, rU, tTest, tIf, tB, tAnd, tOr, tNot, tAndV, tOrV, tNotV, gName, gSub, gTupH, gCons, gNil, tYes, tCons, tNil, tLst, tTup, tCB, tCall, tMeth, tMake, tFld, sFld, tFor_c, tLc_c, iRng1, iList, iTup, iStr, iSeqB, iEnumB, tM1, tSl, tPart, tNoPart, rSlS, rIxS, tBM, rAppend, tIf, rEq, rNe, scal, hIx, hIxT, hIxB, hSet, hInt, hIntB, hLen, hLenT, hLenB, L2.start, wipe, List.map_cons, List.map_nil, List.set_cons_zero, List.set_cons_succ, List.set_nil, List.length_cons, List.length_nil, List.length_map, List.cons_append, List.nil_append, List.append_nil, List.replicate, List.getElem?_cons_zero, List.getElem?_cons_succ, Option.some.injEq, V.int.injEq, V.bl.injEq, V.ref.injEq, V.str.injEq, List.cons.injEq, exists_eq_left', exists_eq_left, exists_and_left, and_assoc, upd_same, upd_upd, HO.lst.injEq, HO.tup.injEq, atI_0, atI_1, atI_2, atI_3, set_1, set_2, set_3, CDiv, CPow, CMul, List.length_set, Int.reduceToNat, Int.reduceLE, Int.reduceLT, Int.reducePow, Int.reduceNeg, Nat.reduceAdd, Nat.reduceLT, Nat.reduceLeDiff, Nat.reducePow, Nat.zero_add, or_true, true_or, gt_iff_lt, ge_iff_le, and_true, true_and, decide_eq_true_eq, if_true, Bool.false_eq_true, if_false]
        have eal := s3 _ _ hl
        refine ⟨_, (g _ s3).2.2, al, _, rfl, SqL.of eal, fun S1 nS1 => ?_⟩
        rw [Int.zero_add, cutV_take]
        have s4 := same_new (o := .lst ((lks ls).take i)) nS1
        have eS1 := upd_same (H := H3) (a := S1) (o := .lst ((lks ls).take i))
        generalize upd H3 S1 (.lst ((lks ls).take i)) = H4 at s4 eS1
        have s04 := Same.tr s3 s4
        refine ⟨_, (g _ s04).2.2, al, _, rfl, SqL.of (s4 _ _ eal), fun S2 nS2 => ?_⟩
        rw [show ((i : Nat) : Int) + 1 = ((i + 1 : Nat) : Int) from by omega, cutV_drop]
        have s5 := same_new (o := .lst ((lks ls).drop (i + 1))) nS2
        have eS2 := upd_same (H := H4) (a := S2) (o := .lst ((lks ls).drop (i + 1)))
        generalize upd H4 S2 (.lst ((lks ls).drop (i + 1))) = H5 at s5 eS2
        have s05 := Same.tr s04 s5
        have hll : (lks ls).length = ls.length := List.length_map _
        refine ⟨S1, rfl, S2, rfl, _, s5 _ _ eS1, _, eS2, sizeLe (by rw [List.length_take, List.length_drop]; omega), fun L9 nL9 => ?_⟩
        have el : (lks ls).take i ++ (lks ls).drop (i + 1) = lks (less ls i) := by
          unfold less lks
          rw [List.map_append, List.map_take, List.map_drop]
        rw [el]
        have s6 := same_new (o := .lst (lks (less ls i))) nL9
        have eL9 := upd_same (H := H5) (a := L9) (o := .lst (lks (less ls i)))
        generalize upd H5 L9 (.lst (lks (less ls i))) = H6 at s6 eL9
        have s06 := Same.tr s05 s6
        intro D2 hD2
        have s7 := same_new (o := .dK []) hD2
        simp only [tPairs]
        simp only [gStr2, gSeqH, tDc_c, tDGet, sDPut, rCat, tBreak, rExtend, tSeq, tAsg, tRet, tRetN, tDrop, tIfS, tNext, tNever, tOp, tUn, tVar, tC, rI0, rI, rU, tTest, tIf, tB, tAnd, tOr, tNot, tAndV, tOrV, tNotV, gName, gSub, gTupH, gCons, gNil, tYes, tCons, tNil, tLst, tTup, tCB, tCall, tMeth, tMake, tFld, sFld, tFor_c, tLc_c, iRng1, iList, iTup, iStr, iSeqB, iEnumB, tM1, tSl, tPart, tNoPart, rSlS, rIxS, tBM, rAppend, tIf, rEq, rNe, scal, hIx, hIxT, hIxB, hSet, hInt, hIntB, hLen, hLenT, hLenB, L2.start, wipe, List.map_cons, List.map_nil, List.set_cons_zero, List.set_cons_succ, List.set_nil, List.length_cons, List.length_nil, List.length_map, List.cons_append, List.nil_append, List.append_nil, List.replicate, List.getElem?_cons_zero, List.getElem?_cons_succ, Option.some.injEq, V.int.injEq, V.bl.injEq, V.ref.injEq, V.str.injEq, List.cons.injEq, exists_eq_left', exists_eq_left, exists_and_left, and_assoc, upd_same, upd_upd, HO.lst.injEq, HO.tup.injEq, atI_0, atI_1, atI_2, atI_3, set_1, set_2, set_3, CDiv, CPow, CMul, List.length_set, Int.reduceToNat, Int.reduceLE, Int.reduceLT, Int.reducePow, Int.reduceNeg, Nat.reduceAdd, Nat.reduceLT, Nat.reduceLeDiff, Nat.reducePow, Nat.zero_add, or_true, true_or, gt_iff_lt, ge_iff_le, and_true, true_and, decide_eq_true_eq, if_true, Bool.false_eq_true, if_false]
        have g1 := g _ (Same.tr s06 s7)
        refine ⟨_, g1.1, _, g1.2.1, [(.inr "variables", .int (n : Int)), (.inr "nodes", .ref an), (.inr "links", .ref L9)], rfl, Nat.le_of_ble_eq_true rfl, ?_⟩
        rw [mergeN]
        have s8 := same_new (o := .dK (netKV n an L9)) hD2
        have e8 := upd_same (H := H6) (a := D2) (o := .dK (netKV n an L9))
        generalize upd H6 D2 (.dK (netKV n an L9)) = H7 at s8 e8
        have s07 := Same.tr s06 s8
        have hD : DNet H7 D2 n rows (less ls i) := ⟨an, L9, e8, hR.same s07, s8 _ _ eL9⟩
        have lless : (less ls i).length ≤ 20 := by
          unfold less
          rw [List.length_append, List.length_take, List.length_drop]
          omega
        refine ⟨D2, n, rows, _, t, rfl, hD, r6, hr4, lless, fun H8 s9 => ⟨rfl, ?_⟩⟩
        have s08 := Same.tr s07 s9
        have s38 : Same H3 H8 := Same.tr s4 (Same.tr s5 (Same.tr s6 (Same.tr s8 s9)))
        have eF8 := s38 _ _ eF3
        by_cases c : fdT rows (less ls i) t = []
        · refine iteF' (by rw [decide_eq_true ((hne _).mpr c)]; decide) ⟨⟨_, rfl⟩, s08, ?_⟩
          rw [List.range_succ, List.filter_append, List.filter_cons, if_neg (by rw [decide_eq_true_iff]; exact fun z => z c), List.filter_nil, List.append_nil]
          exact eF8
        · refine iteT' (by rw [decide_eq_false (fun z => c ((hne _).mp z))]; rfl) ⟨.inl ⟨rfl, _, SqL.of eF8⟩, _, eF8, ?_, ⟨_, rfl⟩, same_out s08 hF0, ?_⟩
          · rw [ni_len]
            refine small1000 (Nat.le_trans (List.length_filter_le _ _) ?_)
            rw [List.length_range]
            omega
          · rw [List.range_succ, List.filter_append, List.filter_cons, if_pos (decide_eq_true c), List.filter_nil, ni_snoc]
      · rintro σ H3 ⟨⟨v3, v4, v5, rfl⟩, s3, eF3⟩
        simp only [gStr2, gSeqH, tDc_c, tDGet, sDPut, rCat, tBreak, rExtend, tSeq, tAsg, tRet, tRetN, tDrop, tIfS, tNext, tNever, tOp, tUn, tVar, tC, rI0, rI, rU, tTest, tIf, tB, tAnd, tOr, tNot, tAndV, tOrV, tNotV, gName, gSub, gTupH, gCons, gNil, tYes, tCons, tNil, tLst, tTup, tCB, tCall, tMeth, tMake, tFld, sFld, tFor_c, tLc_c, iRng1, iList, iTup, iStr, iSeqB, iEnumB, tM1, tSl, tPart, tNoPart, rSlS, rIxS, tBM, rAppend, tIf, rEq, rNe, scal, hIx, hIxT, hIxB, hSet, hInt, hIntB, hLen, hLenT, hLenB, L2.start, wipe, List.map_cons, List.map_nil, List.set_cons_zero, List.set_cons_succ, List.set_nil, List.length_cons, List.length_nil, List.length_map, List.cons_append, List.nil_append, List.append_nil, List.replicate, List.getElem?_cons_zero, List.getElem?_cons_succ, Option.some.injEq, V.int.injEq, V.bl.injEq, V.ref.injEq, V.str.injEq, List.cons.injEq, exists_eq_left', exists_eq_left, exists_and_left, and_assoc, upd_same, upd_upd, HO.lst.injEq, HO.tup.injEq, atI_0, atI_1, atI_2, atI_3, set_1, set_2, set_3, CDiv, CPow, CMul, List.length_set, Int.reduceToNat, Int.reduceLE, Int.reduceLT, Int.reducePow, Int.reduceNeg, Nat.reduceAdd, Nat.reduceLT, Nat.reduceLeDiff, Nat.reducePow, Nat.zero_add, or_true, true_or, gt_iff_lt, ge_iff_le, and_true, true_and, decide_eq_true_eq, if_true, Bool.false_eq_true, if_false]
        refine ⟨F, _, rfl, .inl eF3, fun u H4 s4 _ e4 => q1 h0 u H4 (Same.tr s3 s4) ?_⟩
        rw [e4]
        unfold critL
        rw [List.filter_congr fun k hk => crit_iff r6 r1 h0 (List.mem_range.mp hk)]
    · refine iteT' ?_ (q2 h0 H1 s1)
      rw [decide_eq_false (fun z => h0 ((hne _).mp z))]
      rfl
end
end AK
set_option Elab.async false
set_option linter.all false
set_option maxRecDepth 100000
set_option maxHeartbeats 4000000
namespace AK
open PySem PySem.Spec PyProof.Rows L2
theorem bad_texts : (List.range 7).all (fun n => [[97], [65, 65], [66, 65], [71], [65, 32]].all fun s => !asc (AN.take n) s) = true := by decide +kernel
theorem bad_text {rows : List (List Nat)} (r6 : rows.length ≤ 6) {s : List Nat} (h : s ∈ [[], [97], [65, 65], [66, 65], [71], [65, 32]]) : ¬ okT rows s := fun z => by
  rcases List.mem_cons.mp h with y | y
  · exact z.1 y
  · have := List.all_eq_true.mp (List.all_eq_true.mp bad_texts rows.length (List.mem_range.mpr (by omega))) s y
    rw [z.2] at this
    cases this
theorem aloneL_eq {rows : List (List Nat)} (r6 : rows.length ≤ 6) (r1 : 1 ≤ rows.length) (ls : List (Nat × Nat)) (T : List Nat) : aloneL rows ls T = T.filter fun c => decide (fdT rows ls [c] = []) := by
  unfold aloneL
  refine List.filter_congr fun c _ => ?_
  rw [dfT_fd r6 r1]
  split
  · rename_i h
    rw [decide_eq_true h, decide_eq_true rfl]
  · rename_i h
    rw [decide_eq_false h, decide_eq_false (fun z => by cases z)]
theorem cutS3 {s1 s2 s3 T : TS} {D : Ends} {σ : L2.St} {H : Hp} (C : L2.St → Hp → Prop) (h : ∀ T' : TS, (∀ σ' H', C σ' H' → T' D σ' H') → tSeq s1 (tSeq s2 (tSeq s3 T')) D σ H) (hT : ∀ σ' H', C σ' H' → T D σ' H') : tSeq s1 (tSeq s2 (tSeq s3 T)) D σ H := h T hT
def spLaw (K : PySem.W.Frag) (P : Addr) : Sp := fun vs H Q _ => ∃ (a : Addr) (ns : List Int), vs = [.ref a] ∧ SqL K H a (ns.map V.int) ∧ ns.length ≤ 63 ∧ (∀ z ∈ ns, Builtin.Int.intBits z ≤ 1048576) ∧ H P = some (.tbl #[]) ∧ ∀ H', Q (.bl true) H'
section
variable {P : Program} {w : World} {K : PySem.W.Frag} {mg : Str → Option Value} {base : Heap} {a : Ads}
def spRefT (C : Addr) : Sp := fun vs H Q _ => ∃ (p : Addr) (n : Nat) (rows : List (List Nat)) (ls : List (Nat × Nat)) (T : List Nat) (k : Int), vs = [.ref p, .str (tx T), .int k] ∧ NetN C H p n rows ls ∧ OkR n rows ls ∧ T.length ≤ 6 ∧ (∀ c ∈ T, c < 1000) ∧ ¬ okT rows T ∧ ∀ H', Q (.bl true) H'
theorem ok_law_refused (T : Txt K mg a) : FnOk P w K mg base CX0 12 a.a_law_refused a.d_law_refused ["network", "text", "kind"] (spRefT a.c_Network) := by
  have G_first_set := ok_first_set (P := P) (w := w) (base := base) T
  have G_feasible_alone := ok_feasible_alone (P := P) (w := w) (base := base) T
  have G_is_feasible_for := ok_is_feasible_for (P := P) (w := w) (base := base) T
  have G_delivery := ok_delivery_out (P := P) (w := w) (base := base) T
  have G_is_complete_for := ok_complete_out (P := P) (w := w) (base := base) T
  have G_critical_links := ok_critical_links (P := P) (w := w) (base := base) T
  refine T.F_law_refused.ok sc_law_refused (fun vs H Q E h => ?_) (fun cdv A outer s H vs Q E hr h => ?_)
  · obtain ⟨_, _, _, _, _, _, rfl, _⟩ := h
    rfl
  · obtain ⟨p, n, rows, ls, t, k, rfl, hN, ok, t6, tc, hno, q⟩ := h
    refine ⟨_, (pss_cons (ps_try_as (i := 3) (Wout := (fun _ _ _ _ => False)) rfl rfl sc_law_refused.nd rfl rfl ⟨by rfl, by decide, Or.inl T.g_NoSet⟩ takes0 (fun W pn xe tk _ => (pss_one (ps_if (pt_cmpR op_eq (pv 2) pe_int (nomark _))
      (pss_one (ps_expr (pe_callS G_first_set (hr.mono (by first | decide | exact Nat.le_refl _ | omega)) (by rfl) T.g_first_set T.F_first_set.kp T.b_first_set (fun σ => passAt tk σ) (pa_cons (pv 0) (pa_cons (pv 1) pa_nil)))))
      (pss_one (ps_if (pt_cmpR op_eq (pv 2) pe_int (nomark _))
      (pss_one (ps_expr (pe_callS G_feasible_alone (hr.mono (by first | decide | exact Nat.le_refl _ | omega)) (by rfl) T.g_feasible_alone T.F_feasible_alone.kp T.b_feasible_alone (fun σ => passAt tk σ) (pa_cons (pv 0) (pa_cons (pv 1) pa_nil)))))
      (pss_one (ps_if (pt_cmpR op_eq (pv 2) pe_int (nomark _))
      (pss_one (ps_expr (pe_callS G_is_feasible_for (hr.mono (by first | decide | exact Nat.le_refl _ | omega)) (by rfl) T.g_is_feasible_for T.F_is_feasible_for.kp T.b_is_feasible_for (fun σ => passAt tk σ) (pa_cons (pv 0) (pa_cons (pv 1) pa_nil)))))
      (pss_one (ps_if (pt_cmpR op_eq (pv 2) pe_int (nomark _))
      (pss_one (ps_expr (pe_callS G_delivery (hr.mono (by first | decide | exact Nat.le_refl _ | omega)) (by rfl) T.g_delivery T.F_delivery.kp T.b_delivery (fun σ => passAt tk σ) (pa_cons (pv 0) (pa_cons (pv 1) (pa_cons pe_str pa_nil))))))
      (pss_one (ps_if (pt_cmpR op_eq (pv 2) pe_int (nomark _))
      (pss_one (ps_expr (pe_callS G_is_complete_for (hr.mono (by first | decide | exact Nat.le_refl _ | omega)) (by rfl) T.g_is_complete_for T.F_is_complete_for.kp T.b_is_complete_for (fun σ => passAt tk σ) (pa_cons (pv 0) (pa_cons (pv 1) (pa_cons (pe_tup pa_nil) pa_nil))))))
      (pss_one (ps_expr (pe_callS G_critical_links (hr.mono (by first | decide | exact Nat.le_refl _ | omega)) (by rfl) T.g_critical_links T.F_critical_links.kp T.b_critical_links (fun σ => passAt tk σ) (pa_cons (pv 0) (pa_cons (pv 1) pa_nil))))))))))))))))
      (fun a oe cls d pn hz hf => (pss_one (ps_ret (pe_callB (call_isN T.X_NoSet hz hf) (by rfl) T.z_isinstance (by decide +kernel) (pa_cons (pv 3) (pa_cons (pe_bltn (v := .ty "ValueError") (by rfl) T.z_ValueError (by decide +kernel) rfl) pa_nil)))))))
      (pss_one (ps_ret pe_bl))), ?_⟩
    simp only [gStr2, gSeqH, tDc_c, tDGet, sDPut, rCat, tBreak, rExtend, tSeq, tAsg, tRet, tRetN, tDrop, tIfS, tNext, tNever, tOp, tUn, tVar, tC, rI0, rI, rU, tTest, tIf, tB, tAnd, tOr, tNot, tAndV, tOrV, tNotV, gName, gSub, gTupH, gCons, gNil, tYes, tCons, tNil, tLst, tTup, tCB, tCall, tMeth, tMake, tFld, sFld, tFor_c, tLc_c, iRng1, iList, iTup, iStr, iSeqB, iEnumB, tM1, tSl, tPart, tNoPart, rSlS, rIxS, tBM, rAppend, tIf, rEq, rNe, scal, hIx, hIxT, hIxB, hSet, hInt, hIntB, hLen, hLenT, hLenB, L2.start, wipe, List.map_cons, List.map_nil, List.set_cons_zero, List.set_cons_succ, List.set_nil, List.length_cons, List.length_nil, List.length_map, List.cons_append, List.nil_append, List.append_nil, List.replicate, List.getElem?_cons_zero, List.getElem?_cons_succ, Option.some.injEq, V.int.injEq, V.bl.injEq, V.ref.injEq, V.str.injEq, List.cons.injEq, exists_eq_left', exists_eq_left, exists_and_left, and_assoc, upd_same, upd_upd, HO.lst.injEq, HO.tup.injEq, atI_0, atI_1, atI_2, atI_3, set_1, set_2, set_3, CDiv, CPow, CMul, List.length_set, Int.reduceToNat, Int.reduceLE, Int.reduceLT, Int.reducePow, Int.reduceNeg, Nat.reduceAdd, Nat.reduceLT, Nat.reduceLeDiff, Nat.reducePow, Nat.zero_add, or_true, true_or, gt_iff_lt, ge_iff_le, and_true, true_and, decide_eq_true_eq, if_true, Bool.false_eq_true, if_false]
    refine ite2 (fun _ => ?_) fun _ => ite2 (fun _ => ?_) fun _ => ite2 (fun _ => ?_) fun _ => ite2 (fun _ => ?_) fun _ => ite2 (fun _ => ?_) fun _ => ?_
    · refine ⟨_, rfl, _, rfl, p, n, rows, ls, t, rfl, hN, ok, t6, tc, fun h => absurd h hno, fun _ H1 s1 => ⟨true, T.X_NoSet.one, fun _ e3 he => ?_, fun z => by cases z⟩⟩
      simp only [gStr2, gSeqH, tDc_c, tDGet, sDPut, rCat, tBreak, rExtend, tSeq, tAsg, tRet, tRetN, tDrop, tIfS, tNext, tNever, tOp, tUn, tVar, tC, rI0, rI, rU, tTest, tIf, tB, tAnd, tOr, tNot, tAndV, tOrV, tNotV, gName, gSub, gTupH, gCons, gNil, tYes, tCons, tNil, tLst, tTup, tCB, tCall, tMeth, tMake, tFld, sFld, tFor_c, tLc_c, iRng1, iList, iTup, iStr, iSeqB, iEnumB, tM1, tSl, tPart, tNoPart, rSlS, rIxS, tBM, rAppend, tIf, rEq, rNe, scal, hIx, hIxT, hIxB, hSet, hInt, hIntB, hLen, hLenT, hLenB, L2.start, wipe, List.map_cons, List.map_nil, List.set_cons_zero, List.set_cons_succ, List.set_nil, List.length_cons, List.length_nil, List.length_map, List.cons_append, List.nil_append, List.append_nil, List.replicate, List.getElem?_cons_zero, List.getElem?_cons_succ, Option.some.injEq, V.int.injEq, V.bl.injEq, V.ref.injEq, V.str.injEq, List.cons.injEq, exists_eq_left', exists_eq_left, exists_and_left, and_assoc, upd_same, upd_upd, HO.lst.injEq, HO.tup.injEq, atI_0, atI_1, atI_2, atI_3, set_1, set_2, set_3, CDiv, CPow, CMul, List.length_set, Int.reduceToNat, Int.reduceLE, Int.reduceLT, Int.reducePow, Int.reduceNeg, Nat.reduceAdd, Nat.reduceLT, Nat.reduceLeDiff, Nat.reducePow, Nat.zero_add, or_true, true_or, gt_iff_lt, ge_iff_le, and_true, true_and, decide_eq_true_eq, if_true, Bool.false_eq_true, if_false]
      exact ⟨_, _, true, rfl, rfl, rfl, .ty _, T.i_NoSet_ValueError, q _⟩
    · refine ⟨_, rfl, _, rfl, p, n, rows, ls, t, rfl, hN, ok, t6, tc, fun h => absurd h hno, fun _ H1 s1 => ⟨true, T.X_NoSet.one, fun _ e3 he => ?_, fun z => by cases z⟩⟩
      simp only [gStr2, gSeqH, tDc_c, tDGet, sDPut, rCat, tBreak, rExtend, tSeq, tAsg, tRet, tRetN, tDrop, tIfS, tNext, tNever, tOp, tUn, tVar, tC, rI0, rI, rU, tTest, tIf, tB, tAnd, tOr, tNot, tAndV, tOrV, tNotV, gName, gSub, gTupH, gCons, gNil, tYes, tCons, tNil, tLst, tTup, tCB, tCall, tMeth, tMake, tFld, sFld, tFor_c, tLc_c, iRng1, iList, iTup, iStr, iSeqB, iEnumB, tM1, tSl, tPart, tNoPart, rSlS, rIxS, tBM, rAppend, tIf, rEq, rNe, scal, hIx, hIxT, hIxB, hSet, hInt, hIntB, hLen, hLenT, hLenB, L2.start, wipe, List.map_cons, List.map_nil, List.set_cons_zero, List.set_cons_succ, List.set_nil, List.length_cons, List.length_nil, List.length_map, List.cons_append, List.nil_append, List.append_nil, List.replicate, List.getElem?_cons_zero, List.getElem?_cons_succ, Option.some.injEq, V.int.injEq, V.bl.injEq, V.ref.injEq, V.str.injEq, List.cons.injEq, exists_eq_left', exists_eq_left, exists_and_left, and_assoc, upd_same, upd_upd, HO.lst.injEq, HO.tup.injEq, atI_0, atI_1, atI_2, atI_3, set_1, set_2, set_3, CDiv, CPow, CMul, List.length_set, Int.reduceToNat, Int.reduceLE, Int.reduceLT, Int.reducePow, Int.reduceNeg, Nat.reduceAdd, Nat.reduceLT, Nat.reduceLeDiff, Nat.reducePow, Nat.zero_add, or_true, true_or, gt_iff_lt, ge_iff_le, and_true, true_and, decide_eq_true_eq, if_true, Bool.false_eq_true, if_false]
      exact ⟨_, _, true, rfl, rfl, rfl, .ty _, T.i_NoSet_ValueError, q _⟩
    · refine ⟨_, rfl, _, rfl, p, n, rows, ls, t, rfl, hN, ok, t6, tc, fun h => absurd h hno, fun _ H1 s1 => ⟨true, T.X_NoSet.one, fun _ e3 he => ?_, fun z => by cases z⟩⟩
      simp only [gStr2, gSeqH, tDc_c, tDGet, sDPut, rCat, tBreak, rExtend, tSeq, tAsg, tRet, tRetN, tDrop, tIfS, tNext, tNever, tOp, tUn, tVar, tC, rI0, rI, rU, tTest, tIf, tB, tAnd, tOr, tNot, tAndV, tOrV, tNotV, gName, gSub, gTupH, gCons, gNil, tYes, tCons, tNil, tLst, tTup, tCB, tCall, tMeth, tMake, tFld, sFld, tFor_c, tLc_c, iRng1, iList, iTup, iStr, iSeqB, iEnumB, tM1, tSl, tPart, tNoPart, rSlS, rIxS, tBM, rAppend, tIf, rEq, rNe, scal, hIx, hIxT, hIxB, hSet, hInt, hIntB, hLen, hLenT, hLenB, L2.start, wipe, List.map_cons, List.map_nil, List.set_cons_zero, List.set_cons_succ, List.set_nil, List.length_cons, List.length_nil, List.length_map, List.cons_append, List.nil_append, List.append_nil, List.replicate, List.getElem?_cons_zero, List.getElem?_cons_succ, Option.some.injEq, V.int.injEq, V.bl.injEq, V.ref.injEq, V.str.injEq, List.cons.injEq, exists_eq_left', exists_eq_left, exists_and_left, and_assoc, upd_same, upd_upd, HO.lst.injEq, HO.tup.injEq, atI_0, atI_1, atI_2, atI_3, set_1, set_2, set_3, CDiv, CPow, CMul, List.length_set, Int.reduceToNat, Int.reduceLE, Int.reduceLT, Int.reducePow, Int.reduceNeg, Nat.reduceAdd, Nat.reduceLT, Nat.reduceLeDiff, Nat.reducePow, Nat.zero_add, or_true, true_or, gt_iff_lt, ge_iff_le, and_true, true_and, decide_eq_true_eq, if_true, Bool.false_eq_true, if_false]
      exact ⟨_, _, true, rfl, rfl, rfl, .ty _, T.i_NoSet_ValueError, q _⟩
    · refine ⟨_, rfl, _, rfl, p, n, rows, ls, t, _, rfl, hN, ok, t6, tc, hno, fun H1 s1 => ⟨true, T.X_NoSet.one, fun _ e3 he => ?_, fun z => by cases z⟩⟩
      simp only [gStr2, gSeqH, tDc_c, tDGet, sDPut, rCat, tBreak, rExtend, tSeq, tAsg, tRet, tRetN, tDrop, tIfS, tNext, tNever, tOp, tUn, tVar, tC, rI0, rI, rU, tTest, tIf, tB, tAnd, tOr, tNot, tAndV, tOrV, tNotV, gName, gSub, gTupH, gCons, gNil, tYes, tCons, tNil, tLst, tTup, tCB, tCall, tMeth, tMake, tFld, sFld, tFor_c, tLc_c, iRng1, iList, iTup, iStr, iSeqB, iEnumB, tM1, tSl, tPart, tNoPart, rSlS, rIxS, tBM, rAppend, tIf, rEq, rNe, scal, hIx, hIxT, hIxB, hSet, hInt, hIntB, hLen, hLenT, hLenB, L2.start, wipe, List.map_cons, List.map_nil, List.set_cons_zero, List.set_cons_succ, List.set_nil, List.length_cons, List.length_nil, List.length_map, List.cons_append, List.nil_append, List.append_nil, List.replicate, List.getElem?_cons_zero, List.getElem?_cons_succ, Option.some.injEq, V.int.injEq, V.bl.injEq, V.ref.injEq, V.str.injEq, List.cons.injEq, exists_eq_left', exists_eq_left, exists_and_left, and_assoc, upd_same, upd_upd, HO.lst.injEq, HO.tup.injEq, atI_0, atI_1, atI_2, atI_3, set_1, set_2, set_3, CDiv, CPow, CMul, List.length_set, Int.reduceToNat, Int.reduceLE, Int.reduceLT, Int.reducePow, Int.reduceNeg, Nat.reduceAdd, Nat.reduceLT, Nat.reduceLeDiff, Nat.reducePow, Nat.zero_add, or_true, true_or, gt_iff_lt, ge_iff_le, and_true, true_and, decide_eq_true_eq, if_true, Bool.false_eq_true, if_false]
      exact ⟨_, _, true, rfl, rfl, rfl, .ty _, T.i_NoSet_ValueError, q _⟩
    · refine ⟨_, rfl, _, rfl, Nat.zero_le _, fun u hu => ?_⟩
      have s0 := same_new (o := .tup []) hu
      refine ⟨p, n, rows, ls, t, _, rfl, hN.same s0, ok, t6, tc, hno, fun H1 s1 => ⟨true, T.X_NoSet.one, fun _ e3 he => ?_, fun z => by cases z⟩⟩
      simp only [gStr2, gSeqH, tDc_c, tDGet, sDPut, rCat, tBreak, rExtend, tSeq, tAsg, tRet, tRetN, tDrop, tIfS, tNext, tNever, tOp, tUn, tVar, tC, rI0, rI, rU, tTest, tIf, tB, tAnd, tOr, tNot, tAndV, tOrV, tNotV, gName, gSub, gTupH, gCons, gNil, tYes, tCons, tNil, tLst, tTup, tCB, tCall, tMeth, tMake, tFld, sFld, tFor_c, tLc_c, iRng1, iList, iTup, iStr, iSeqB, iEnumB, tM1, tSl, tPart, tNoPart, rSlS, rIxS, tBM, rAppend, tIf, rEq, rNe, scal, hIx, hIxT, hIxB, hSet, hInt, hIntB, hLen, hLenT, hLenB, L2.start, wipe, List.map_cons, List.map_nil, List.set_cons_zero, List.set_cons_succ, List.set_nil, List.length_cons, List.length_nil, List.length_map, List.cons_append, List.nil_append, List.append_nil, List.replicate, List.getElem?_cons_zero, List.getElem?_cons_succ, Option.some.injEq, V.int.injEq, V.bl.injEq, V.ref.injEq, V.str.injEq, List.cons.injEq, exists_eq_left', exists_eq_left, exists_and_left, and_assoc, upd_same, upd_upd, HO.lst.injEq, HO.tup.injEq, atI_0, atI_1, atI_2, atI_3, set_1, set_2, set_3, CDiv, CPow, CMul, List.length_set, Int.reduceToNat, Int.reduceLE, Int.reduceLT, Int.reducePow, Int.reduceNeg, Nat.reduceAdd, Nat.reduceLT, Nat.reduceLeDiff, Nat.reducePow, Nat.zero_add, or_true, true_or, gt_iff_lt, ge_iff_le, and_true, true_and, decide_eq_true_eq, if_true, Bool.false_eq_true, if_false]
      exact ⟨_, _, true, rfl, rfl, rfl, .ty _, T.i_NoSet_ValueError, q _⟩
    · refine ⟨_, rfl, _, rfl, p, n, rows, ls, t, rfl, hN, ok, t6, tc, fun h => absurd h hno, fun _ H1 s1 => ⟨true, T.X_NoSet.one, fun _ e3 he => ?_, fun z => by cases z⟩⟩
      simp only [gStr2, gSeqH, tDc_c, tDGet, sDPut, rCat, tBreak, rExtend, tSeq, tAsg, tRet, tRetN, tDrop, tIfS, tNext, tNever, tOp, tUn, tVar, tC, rI0, rI, rU, tTest, tIf, tB, tAnd, tOr, tNot, tAndV, tOrV, tNotV, gName, gSub, gTupH, gCons, gNil, tYes, tCons, tNil, tLst, tTup, tCB, tCall, tMeth, tMake, tFld, sFld, tFor_c, tLc_c, iRng1, iList, iTup, iStr, iSeqB, iEnumB, tM1, tSl, tPart, tNoPart, rSlS, rIxS, tBM, rAppend, tIf, rEq, rNe, scal, hIx, hIxT, hIxB, hSet, hInt, hIntB, hLen, hLenT, hLenB, L2.start, wipe, List.map_cons, List.map_nil, List.set_cons_zero, List.set_cons_succ, List.set_nil, List.length_cons, List.length_nil, List.length_map, List.cons_append, List.nil_append, List.append_nil, List.replicate, List.getElem?_cons_zero, List.getElem?_cons_succ, Option.some.injEq, V.int.injEq, V.bl.injEq, V.ref.injEq, V.str.injEq, List.cons.injEq, exists_eq_left', exists_eq_left, exists_and_left, and_assoc, upd_same, upd_upd, HO.lst.injEq, HO.tup.injEq, atI_0, atI_1, atI_2, atI_3, set_1, set_2, set_3, CDiv, CPow, CMul, List.length_set, Int.reduceToNat, Int.reduceLE, Int.reduceLT, Int.reducePow, Int.reduceNeg, Nat.reduceAdd, Nat.reduceLT, Nat.reduceLeDiff, Nat.reducePow, Nat.zero_add, or_true, true_or, gt_iff_lt, ge_iff_le, and_true, true_and, decide_eq_true_eq, if_true, Bool.false_eq_true, if_false]
      exact ⟨_, _, true, rfl, rfl, rfl, .ty _, T.i_NoSet_ValueError, q _⟩
theorem ok_law (T : Txt K mg a) (hT : GxR.TabB base mg a.cG_Network_init a.tG_Network_init) : FnOk P w K mg base CX0 13 a.a_law a.d_law ["script"] (spLaw K a.tG_Network_init) := by
  have G_law_pool := ok_law_pool (P := P) (w := w) (base := base) (mg := mg) T.F_law_pool
  have G_law_same := ok_law_same (P := P) (w := w) (base := base) T 1
  have G_law_take := ok_law_take (P := P) (w := w) (base := base) T
  have G_law_network := ok_law_network (P := P) (w := w) (base := base) T
  have G_law_handed := ok_law_handed (P := P) (w := w) (base := base) T
  have G_Network_init := ok_Network (P := P) (w := w) (base := base) T hT
  have G_law_targets := ok_law_targets (P := P) (w := w) (base := base) T
  have G_law_first_set := ok_law_first_set (P := P) (w := w) (base := base) T
  have G_law_critical := ok_law_critical (P := P) (w := w) (base := base) T
  have G_law_refused := ok_law_refused (P := P) (w := w) (base := base) T
  have G_first_set := ok_first_set (P := P) (w := w) (base := base) T
  have G_is_feasible_for := ok_is_feasible_for (P := P) (w := w) (base := base) T
  have G_feasible_alone := ok_feasible_alone (P := P) (w := w) (base := base) T
  have G_critical_links := ok_critical_links (P := P) (w := w) (base := base) T
  refine T.F_law.ok sc_law (fun vs H Q E h => ?_) (fun cdv A0 outer s00 H vs Q E hr h => ?_)
  · obtain ⟨_, _, rfl, _⟩ := h
    rfl
  · obtain ⟨s0, ns, rfl, hS, hl, _, hTb, q⟩ := h
    refine ⟨_, (pss_cons (ps_set (i := 1) sc_law.nd rfl (.inl rfl) (pe_call G_law_pool (hr.mono (by first | decide | exact Nat.le_refl _ | omega)) (by rfl) T.g_law_pool T.F_law_pool.kp T.b_law_pool .nil pass0 (pa_cons (pv 0) pa_nil)))
      (pss_cons (ps_set (i := 2) sc_law.nd rfl (.inr rfl) (pe_call G_law_network (hr.mono (by first | decide | exact Nat.le_refl _ | omega)) (by rfl) T.g_law_network T.F_law_network.kp T.b_law_network .nil pass0 (pa_cons (pv 1) (pa_cons pe_int (pa_cons pe_int pa_nil)))))
      (pss_cons (ps_set (i := 3) sc_law.nd rfl (.inl rfl) (pe_call G_law_handed (hr.mono (by first | decide | exact Nat.le_refl _ | omega)) (by rfl) T.g_law_handed T.F_law_handed.kp T.b_law_handed .nil pass0 (pa_cons (pv 1) (pa_cons (pv 2) pa_nil))))
      (pss_cons (ps_set (i := 4) sc_law.nd rfl (.inl rfl) (pe_make T.K_Network G_Network_init (hr.mono (by first | decide | exact Nat.le_refl _ | omega)) (by rfl) T.g_Network T.b_Network_init .nil (passes_call (E := E0) takes0 (fun _ _ _ _ z => z)) (pa_cons (pe_ix ixHT (pv 3) pe_int (fun _ _ => rfl)) (pa_cons (pe_ix ixHT (pv 3) pe_int (fun _ _ => rfl)) (pa_cons (pe_ix ixHT (pv 3) pe_int (fun _ _ => rfl)) pa_nil)))))
      (pss_cons (ps_for PassesOwn.never rfl (pi_range1 (by rfl) T.z_range (pa_cons pe_int pa_nil)) (pg_name (i := 5) sc_law.nd rfl (.inl rfl))
      (pss_cons (ps_set (i := 6) sc_law.nd rfl (.inl rfl) (pe_call G_law_targets (hr.mono (by first | decide | exact Nat.le_refl _ | omega)) (by rfl) T.g_law_targets T.F_law_targets.kp T.b_law_targets .nil pass0 (pa_cons (pv 1) (pa_cons (pv 2) pa_nil))))
      (pss_cons (ps_set (i := 7) sc_law.nd rfl (.inl rfl) (pe_call G_law_first_set (hr.mono (by first | decide | exact Nat.le_refl _ | omega)) (by rfl) T.g_law_first_set T.F_law_first_set.kp T.b_law_first_set .nil pass0 (pa_cons (pv 2) (pa_cons (pv 6) pa_nil))))
      (pss_cons (ps_if (pt_not (pt_val (pe_call G_law_same (hr.mono (by first | decide | exact Nat.le_refl _ | omega)) (by rfl) T.g_law_same T.F_law_same.kp T.b_law_same .nil pass0 (pa_cons (pe_call G_first_set (hr.mono (by first | decide | exact Nat.le_refl _ | omega)) (by rfl) T.g_first_set T.F_first_set.kp T.b_first_set .nil (passes_call (E := E0) takes0 (fun _ _ _ _ z => z)) (pa_cons (pv 4) (pa_cons (pv 6) pa_nil))) (pa_cons (pe_ifExp (pt_cmpR op_eq (pv 7) pe_str (nomark _)) pe_non (pv 7)) pa_nil)))))
      (pss_one (ps_ret pe_bl))
      pss_nil)
      (pss_cons (ps_if (pt_not (pt_val (pe_call G_law_same (hr.mono (by first | decide | exact Nat.le_refl _ | omega)) (by rfl) T.g_law_same T.F_law_same.kp T.b_law_same .nil pass0 (pa_cons (pe_call G_is_feasible_for (hr.mono (by first | decide | exact Nat.le_refl _ | omega)) (by rfl) T.g_is_feasible_for T.F_is_feasible_for.kp T.b_is_feasible_for .nil (passes_call (E := E0) takes0 (fun _ _ _ _ z => z)) (pa_cons (pv 4) (pa_cons (pv 6) pa_nil))) (pa_cons (pe_cmpR op_eq (pv 7) pe_str (nomark _)) pa_nil)))))
      (pss_one (ps_ret pe_bl))
      pss_nil)
      (pss_cons (ps_set (i := 8) sc_law.nd rfl (.inl rfl) (pe_join pe_str (pe_lc (own := [("letter", 10)]) (g := gName 10)  rfl sc_law.nd (pi_str (pv 6)) (blkOk_by (own := [("letter", 10)]) (N := sc_law_N) (sc := defScope s_law) (by decide +kernel)) (fun _ _ _ _ _ => (pg_name (i := 10) sc_law.nd rfl (.inl rfl))) (fun _ _ _ _ _ => (pts_one (pt_cmpR op_eq (pe_call G_law_first_set (hr.mono (by first | decide | exact Nat.le_refl _ | omega)) (by rfl) T.g_law_first_set T.F_law_first_set.kp T.b_law_first_set .nil pass0 (pa_cons (pv 2) (pa_cons (pv 10) pa_nil))) pe_str (nomark _)))) (fun _ _ _ _ _ => (pv 10)))))
      (pss_cons (ps_if (pt_not (pt_val (pe_call G_law_same (hr.mono (by first | decide | exact Nat.le_refl _ | omega)) (by rfl) T.g_law_same T.F_law_same.kp T.b_law_same .nil pass0 (pa_cons (pe_call G_feasible_alone (hr.mono (by first | decide | exact Nat.le_refl _ | omega)) (by rfl) T.g_feasible_alone T.F_feasible_alone.kp T.b_feasible_alone .nil (passes_call (E := E0) takes0 (fun _ _ _ _ z => z)) (pa_cons (pv 4) (pa_cons (pv 6) pa_nil))) (pa_cons (pv 8) pa_nil)))))
      (pss_one (ps_ret pe_bl))
      pss_nil)
      (pss_one (ps_if (pt_not (pt_val (pe_call G_law_same (hr.mono (by first | decide | exact Nat.le_refl _ | omega)) (by rfl) T.g_law_same T.F_law_same.kp T.b_law_same .nil pass0 (pa_cons (pe_call G_critical_links (hr.mono (by first | decide | exact Nat.le_refl _ | omega)) (by rfl) T.g_critical_links T.F_critical_links.kp T.b_critical_links .nil (passes_call (E := E0) takes0 (fun _ _ _ _ z => z)) (pa_cons (pv 4) (pa_cons (pv 6) pa_nil))) (pa_cons (pe_call G_law_critical (hr.mono (by first | decide | exact Nat.le_refl _ | omega)) (by rfl) T.g_law_critical T.F_law_critical.kp T.b_law_critical .nil pass0 (pa_cons (pv 2) (pa_cons (pv 6) pa_nil))) pa_nil)))))
      (pss_one (ps_ret pe_bl))
      pss_nil)))))))))
      (pss_cons (ps_set (i := 9) sc_law.nd rfl (.inl rfl) (pe_ix ixHT (pe_tup (pa_cons pe_str (pa_cons pe_str (pa_cons pe_str (pa_cons pe_str (pa_cons pe_str (pa_cons pe_str pa_nil))))))) (pe_call G_law_take (hr.mono (by first | decide | exact Nat.le_refl _ | omega)) (by rfl) T.g_law_take T.F_law_take.kp T.b_law_take .nil pass0 (pa_cons (pv 1) (pa_cons pe_int pa_nil))) (fun _ _ => rfl)))
      (pss_one (ps_ret (pe_call G_law_refused (hr.mono (by first | decide | exact Nat.le_refl _ | omega)) (by rfl) T.g_law_refused T.F_law_refused.kp T.b_law_refused .nil pass0 (pa_cons (pv 4) (pa_cons (pv 9) (pa_cons (pe_call G_law_take (hr.mono (by first | decide | exact Nat.le_refl _ | omega)) (by rfl) T.g_law_take T.F_law_take.kp T.b_law_take .nil pass0 (pa_cons (pv 1) (pa_cons pe_int pa_nil))) pa_nil)))))))))))), ?_⟩
    simp only [gStr2, gSeqH, tDc_c, tDGet, sDPut, rCat, tBreak, rExtend, tSeq, tAsg, tRet, tRetN, tDrop, tIfS, tNext, tNever, tOp, tUn, tVar, tC, rI0, rI, rU, tTest, tIf, tB, tAnd, tOr, tNot, tAndV, tOrV, tNotV, gName, gSub, gTupH, gCons, gNil, tYes, tCons, tNil, tLst, tTup, tCB, tCall, tMeth, tMake, tFld, sFld, tFor_c, tLc_c, iRng1, iList, iTup, iStr, iSeqB, iEnumB, tM1, tSl, tPart, tNoPart, rSlS, rIxS, tBM, rAppend, tIf, rEq, rNe, scal, hIx, hIxT, hIxB, hSet, hInt, hIntB, hLen, hLenT, hLenB, L2.start, wipe, List.map_cons, List.map_nil, List.set_cons_zero, List.set_cons_succ, List.set_nil, List.length_cons, List.length_nil, List.length_map, List.cons_append, List.nil_append, List.append_nil, List.replicate, List.getElem?_cons_zero, List.getElem?_cons_succ, Option.some.injEq, V.int.injEq, V.bl.injEq, V.ref.injEq, V.str.injEq, List.cons.injEq, exists_eq_left', exists_eq_left, exists_and_left, and_assoc, upd_same, upd_upd, HO.lst.injEq, HO.tup.injEq, atI_0, atI_1, atI_2, atI_3, set_1, set_2, set_3, CDiv, CPow, CMul, List.length_set, Int.reduceToNat, Int.reduceLE, Int.reduceLT, Int.reducePow, Int.reduceNeg, Nat.reduceAdd, Nat.reduceLT, Nat.reduceLeDiff, Nat.reducePow, Nat.zero_add, or_true, true_or, gt_iff_lt, ge_iff_le, and_true, true_and, decide_eq_true_eq, if_true, Bool.false_eq_true, if_false]
    refine ⟨s0, ns, rfl, hS, hl, fun G0 H1 p hG hp hP => ?_⟩
    obtain ⟨c, p1⟩ := Pool.at hP
    have T1 : GxR.TabG H1 a.tG_Network_init := ⟨#[], hP.le _ _ (hG _ _ hTb), trivial⟩
    refine ⟨p, c, 5, 12, rfl, by decide, by decide, by decide, p1, fun n rows ls d H2 ok k2 p2 _ hN2 => ?_⟩
    have r6 : rows.length ≤ 6 := Nat.le_trans ok.r2 (by decide)
    have r1 := ok.r1
    have l12 : ls.length ≤ 12 := ok.l
    have l20 : ls.length ≤ 20 := by omega
    have hk := okR_of ok (by decide) (by decide)
    have hR := right_of ok (by decide) (by decide)
    refine ⟨p, c, d, n, rows, ls, rfl, p2, hN2, r6, fun r hr => (ok.m r hr).1, l20, fun th pn pl H3 k3 p3 e3 hA3 hL3 => ?_⟩
    have T3 := tab_off (tab_off T1 p1 k2) p2 k3
    have N3 := hN2.off p2 k3
    refine ⟨th, rfl, _, e3, _, rfl, th, rfl, _, e3, _, rfl, th, rfl, _, e3, _, rfl, fun nw dx hnw hdx hne => ?_⟩
    have sx : Same H3 (upd (upd H3 dx (.own nw)) nw (.ins a.c_Network dx [])) := fun b o e => by
      rw [upd_ne (ne_of_none e hnw), upd_ne (ne_of_none e hdx)]
      exact e
    refine ⟨nw, dx, n, pn, pl, rows.map fun r => r.map pt, ls.map lkt, rfl, upd_same, hA3.same sx, row_same (by rw [← lks_strs]; exact hL3) sx, (fun x hx => ?_), tab_same T3 sx, fun _ H4 off tab4 hM4 => ⟨rfl, ?_⟩, fun v1 v2 v3 hW => (hW.no hR).elim⟩
    · obtain ⟨l0, _, rfl⟩ := List.mem_map.mp hx
      exact Nat.le_of_ble_eq_true rfl
    have kd : KeepD H3 H4 := KeepD.of T3 fun b o hb e => off b o hb (ne_of_none e hnw) (sx _ _ e)
    have N4 := N3.keepD kd
    have p4 := p3.keepD kd
    have hM4 : NetN a.c_Network H4 nw n rows ls := hM4
    refine forRng (n := 2) (fun i σ H' => (∃ (v5 v6 v7 v8 v9 v10 : Option V), σ = [some (.ref s0), some (.ref p), some (.ref d), some (.ref th), some (.ref nw), v5, v6, v7, v8, v9, v10]) ∧ Off1 p H4 H' ∧ PoolAt H' p c) ⟨⟨_, _, _, _, _, _, rfl⟩, Off1.refl, p4⟩ ?_ ?_
    · rintro i σ H5 hi ⟨⟨v5, v6, v7, v8, v9, v10, rfl⟩, k5, p5⟩
      have N5 := N4.off p4 k5
      have M5 := hM4.off1 p4 k5
      have hne : ∀ L : List Nat, (V.str (tx L) = V.str (Str.ofString "")) ↔ L = [] := fun L => ⟨fun z => tx_inj ((V.str.inj z).trans (show Str.ofString "" = tx [] from by decide +kernel)), fun z => by rw [z]; exact congrArg V.str (show tx [] = Str.ofString "" from by decide +kernel)⟩
      dsimp only [gName]
      refine cutS3 (fun σ' H' => ∃ (t : List Nat) (v8 v9 v10 : Option V), σ' = [some (.ref s0), some (.ref p), some (.ref d), some (.ref th), some (.ref nw), some (.int (0 + (i : Int))), some (.str (tx t)), some (.str (tx (fdT rows ls t))), v8, v9, v10] ∧ t.length ≤ 6 ∧ (∀ c ∈ t, c < 1000) ∧ okT rows t ∧ Off1 p H4 H' ∧ PoolAt H' p c) (fun T' hT' => ?_) ?_
      · simp only [gStr2, gSeqH, tDc_c, tDGet, sDPut, rCat, tBreak, rExtend, tSeq, tAsg, tRet, tRetN, tDrop, tIfS, tNext, tNever, tOp, tUn, tVar, tC, rI0, rI, rU, tTest, tIf, tB, tAnd, tOr, tNot, tAndV, tOrV, tNotV, gName, gSub, gTupH, gCons, gNil, tYes, tCons, tNil, tLst, tTup, tCB, tCall, tMeth, tMake, tFld, sFld, tFor_c, tLc_c, iRng1, iList, iTup, iStr, iSeqB, iEnumB, tM1, tSl, tPart, tNoPart, rSlS, rIxS, tBM, rAppend, tIf, rEq, rNe, scal, hIx, hIxT, hIxB, hSet, hInt, hIntB, hLen, hLenT, hLenB, L2.start, wipe, List.map_cons, List.map_nil, List.set_cons_zero, List.set_cons_succ, List.set_nil, List.length_cons, List.length_nil, List.length_map, List.cons_append, List.nil_append, List.append_nil, List.replicate, List.getElem?_cons_zero, List.getElem?_cons_succ, Option.some.injEq, V.int.injEq, V.bl.injEq, V.ref.injEq, V.str.injEq, List.cons.injEq, exists_eq_left', exists_eq_left, exists_and_left, and_assoc, upd_same, upd_upd, HO.lst.injEq, HO.tup.injEq, atI_0, atI_1, atI_2, atI_3, set_1, set_2, set_3, CDiv, CPow, CMul, List.length_set, Int.reduceToNat, Int.reduceLE, Int.reduceLT, Int.reducePow, Int.reduceNeg, Nat.reduceAdd, Nat.reduceLT, Nat.reduceLeDiff, Nat.reducePow, Nat.zero_add, or_true, true_or, gt_iff_lt, ge_iff_le, and_true, true_and, decide_eq_true_eq, if_true, Bool.false_eq_true, if_false]
        refine ⟨p, c, d, n, rows, ls, rfl, p5, N5, r6, r1, fun t H6 tne tsub k6 p6 => ?_⟩
        have k46 := k5.tr k6
        have N6 := N4.off p4 k46
        have M6 := hM4.off1 p4 k46
        have t6 : t.length ≤ 6 := by
          have := tsub.length_le
          rw [List.length_take] at this
          omega
        have tc : ∀ c ∈ t, c < 1000 := fun c hc => by
          have := tsub.subset hc
          obtain ⟨i, hi, ei⟩ := List.mem_iff_getElem.mp this
          have hi2 : i < rows.length := by rw [List.length_take] at hi; omega
          have h := ANt_at hi2 (show rows.length ≤ 26 by omega)
          rw [List.getElem?_eq_getElem hi] at h
          have := Option.some.inj h
          omega
        have hok : okT rows t := ⟨tne, asc_of r6 tne tsub⟩
        refine ⟨d, n, rows, ls, t, rfl, N6, r6, hk.m, l20, fun H7 s7 => ?_⟩
        refine ⟨nw, n, rows, ls, t, rfl, NetAt.same M6 s7, hk, t6, tc, fun _ H8 s8 => ⟨rfl, ?_⟩, fun h => absurd hok h⟩
        have go : ∀ {H9 : Hp}, Same H8 H9 → T' _ [some (.ref s0), some (.ref p), some (.ref d), some (.ref th), some (.ref nw), some (.int (0 + (i : Int))), some (.str (tx t)), some (.str (tx (fdT rows ls t))), v8, v9, v10] H9 := fun {H9} s9 => hT' _ _ ⟨t, _, _, _, rfl, t6, tc, hok, k46.tr (Off1.of (Same.tr s7 (Same.tr s8 s9))), p6.same (Same.tr s7 (Same.tr s8 s9))⟩
        have edf := dfT_fd r6 r1 ls t
        refine ite2 (fun c1 => ?_) fun c1 => ?_
        · have c1 := (hne _).mp c1
          rw [if_pos c1] at edf
          rw [edf]
          exact ⟨_, _, rfl, .non _, fun H9 s9 => ⟨true, rfl, iteF (go s9)⟩⟩
        · rw [if_neg (fun z => c1 ((hne _).mpr z))] at edf
          rw [edf]
          exact ⟨_, _, rfl, .str _ _, fun H9 s9 => ⟨true, rfl, iteF (go s9)⟩⟩
      · rintro σ' H6 ⟨t, v8, v9, v10, rfl, t6, tc, hok, k46, p6⟩
        have N6 := N4.off p4 k46
        have M6 : NetN a.c_Network H6 nw n rows ls := hM4.off1 p4 k46
        have edf := dfT_fd r6 r1 ls t
        simp only [gStr2, gSeqH, tDc_c, tDGet, sDPut, rCat, tBreak, rExtend, tSeq, tAsg, tRet, tRetN, tDrop, tIfS, tNext, tNever, tOp, tUn, tVar, tC, rI0, rI, rU, tTest, tIf, tB, tAnd, tOr, tNot, tAndV, tOrV, tNotV, gName, gSub, gTupH, gCons, gNil, tYes, tCons, tNil, tLst, tTup, tCB, tCall, tMeth, tMake, tFld, sFld, tFor_c, tLc_c, iRng1, iList, iTup, iStr, iSeqB, iEnumB, tM1, tSl, tPart, tNoPart, rSlS, rIxS, tBM, rAppend, tIf, rEq, rNe, scal, hIx, hIxT, hIxB, hSet, hInt, hIntB, hLen, hLenT, hLenB, L2.start, wipe, List.map_cons, List.map_nil, List.set_cons_zero, List.set_cons_succ, List.set_nil, List.length_cons, List.length_nil, List.length_map, List.cons_append, List.nil_append, List.append_nil, List.replicate, List.getElem?_cons_zero, List.getElem?_cons_succ, Option.some.injEq, V.int.injEq, V.bl.injEq, V.ref.injEq, V.str.injEq, List.cons.injEq, exists_eq_left', exists_eq_left, exists_and_left, and_assoc, upd_same, upd_upd, HO.lst.injEq, HO.tup.injEq, atI_0, atI_1, atI_2, atI_3, set_1, set_2, set_3, CDiv, CPow, CMul, List.length_set, Int.reduceToNat, Int.reduceLE, Int.reduceLT, Int.reducePow, Int.reduceNeg, Nat.reduceAdd, Nat.reduceLT, Nat.reduceLeDiff, Nat.reducePow, Nat.zero_add, or_true, true_or, gt_iff_lt, ge_iff_le, and_true, true_and, decide_eq_true_eq, if_true, Bool.false_eq_true, if_false]
        refine ⟨nw, n, rows, ls, t, rfl, M6, hk, t6, tc, fun _ H7 s7 => ?_, fun h => absurd hok h⟩
        have hdd : decide (dfT rows ls t = none) = decide (tx (fdT rows ls t) = Str.ofString "") := by
          rw [edf]
          split
          · rename_i h
            rw [decide_eq_true rfl, decide_eq_true (V.str.inj ((hne _).mpr h))]
          · rename_i h
            rw [decide_eq_false (fun z => by cases z), decide_eq_false (fun z => h ((hne _).mp (congrArg V.str z)))]
        rw [hdd]
        refine ⟨_, _, rfl, .bl _ _, fun H8 s8 => ⟨true, rfl, iteF ?_⟩⟩
        have s68 := Same.tr s7 s8
        have ej : Txt.join ("" : Str) = fun ys => Str.join Str.empty ys := funext fun ys => TL.join_eq _ ys
        have lts : lt (tx t) = t := lt_tx t
        refine ⟨⟨_, rfl⟩, ?_⟩
        refine lcStr (x := tx t) (fun i D4 H' => H' D4 = some (.lst ((((t.take i).filter fun c => decide (fdT rows ls [c] = [])).map fun c => tx [c]).map V.str)) ∧ Same H8 H') (fun D4 hD4 => ⟨by rw [List.take_zero]; exact upd_same, same_new hD4⟩) ?_ ?_
        · rintro j ch D4 H9 hD4 hc ⟨eD4, s9⟩
          have hc : t[j]? = some ch := by rw [← lts]; exact hc
          refine ⟨rfl, ?_⟩
          simp only [gStr2, gSeqH, tDc_c, tDGet, sDPut, rCat, tBreak, rExtend, tSeq, tAsg, tRet, tRetN, tDrop, tIfS, tNext, tNever, tOp, tUn, tVar, tC, rI0, rI, rU, tTest, tIf, tB, tAnd, tOr, tNot, tAndV, tOrV, tNotV, gName, gSub, gTupH, gCons, gNil, tYes, tCons, tNil, tLst, tTup, tCB, tCall, tMeth, tMake, tFld, sFld, tFor_c, tLc_c, iRng1, iList, iTup, iStr, iSeqB, iEnumB, tM1, tSl, tPart, tNoPart, rSlS, rIxS, tBM, rAppend, tIf, rEq, rNe, scal, hIx, hIxT, hIxB, hSet, hInt, hIntB, hLen, hLenT, hLenB, L2.start, wipe, List.map_cons, List.map_nil, List.set_cons_zero, List.set_cons_succ, List.set_nil, List.length_cons, List.length_nil, List.length_map, List.cons_append, List.nil_append, List.append_nil, List.replicate, List.getElem?_cons_zero, List.getElem?_cons_succ, Option.some.injEq, V.int.injEq, V.bl.injEq, V.ref.injEq, V.str.injEq, List.cons.injEq, exists_eq_left', exists_eq_left, exists_and_left, and_assoc, upd_same, upd_upd, HO.lst.injEq, HO.tup.injEq, atI_0, atI_1, atI_2, atI_3, set_1, set_2, set_3, CDiv, CPow, CMul, List.length_set, Int.reduceToNat, Int.reduceLE, Int.reduceLT, Int.reducePow, Int.reduceNeg, Nat.reduceAdd, Nat.reduceLT, Nat.reduceLeDiff, Nat.reducePow, Nat.zero_add, or_true, true_or, gt_iff_lt, ge_iff_le, and_true, true_and, decide_eq_true_eq, if_true, Bool.false_eq_true, if_false]
          refine ⟨d, n, rows, ls, [ch], rfl, N6.same (Same.tr s68 s9), r6, hk.m, l20, fun H10 s10 => ⟨rfl, ?_⟩⟩
          have s810 := Same.tr s9 s10
          have eD5 := s10 _ _ eD4
          refine ite2 (fun c1 => ?_) fun c1 => ?_
          · have c1 := (hne _).mp c1
            refine ⟨_, eD5, ?_, ?_, same_out s810 hD4⟩
            · rw [List.length_map, List.length_map]
              exact small1000 (Nat.le_trans (List.length_filter_le _ _) (by rw [List.length_take]; omega))
            · rw [take_s hc, List.filter_append, List.filter_cons, if_pos (decide_eq_true c1), List.filter_nil, List.map_append, List.map_append]
              rfl
          · rw [take_s hc, List.filter_append, List.filter_cons, if_neg (fun z => c1 ((hne _).mpr (of_decide_eq_true z))), List.filter_nil, List.append_nil]
            exact ⟨eD5, s810⟩
        · rintro D4 H9 hD4 ⟨eD4, s9⟩
          rw [lts, List.take_of_length_le (Nat.le_refl _)] at eD4
          have s69 := Same.tr s68 s9
          refine ⟨D4, rfl, _, .inl (SqL.of eD4), ?_, ?_⟩
          · rw [sum_one, show (Str.ofString "").length = 0 from by decide +kernel, Nat.mul_zero]
            have := List.length_filter_le (fun c => decide (fdT rows ls [c] = [])) t
            omega
          · rw [show Str.ofString "" = ("" : Str) from rfl, ej]
            simp only [join_tx]
            refine ⟨nw, n, rows, ls, t, rfl, NetAt.same M6 s69, hk, t6, tc, fun _ H10 s10 => ?_, fun h => absurd hok h⟩
            rw [aloneL_eq r6 r1]
            refine ⟨_, _, rfl, .str _ _, fun H11 s11 => ⟨true, rfl, iteF ?_⟩⟩
            have s611 := Same.tr s69 (Same.tr s10 s11)
            have last : ∀ {x y : V} {H12 : Hp}, Same H11 H12 → SameD H12 1 x y → spSame 1 [x, y] H12 (fun x H1 => ∃ c_4, x = V.bl c_4 ∧ if (!c_4) = true then Q (V.bl false) H1 else (∃ x, v10 = x) ∧ Off1 p H4 H1 ∧ PoolAt H1 p c) E0 := fun {x y H12} s12 hs => ⟨x, y, rfl, hs, fun H13 s13 => ⟨true, rfl, iteF ⟨⟨_, rfl⟩, k46.tr (Off1.of (Same.tr s611 (Same.tr s12 s13))), p6.same (Same.tr s611 (Same.tr s12 s13))⟩⟩⟩
            refine ⟨nw, n, rows, ls, t, rfl, NetAt.same M6 s611, hk, t6, tc, fun _ => ⟨fun hn u H12 s12 eu => ?_, fun hn H12 s12 => ?_⟩, fun h => absurd hok h⟩
            · have h0 : fdT rows ls t = [] := by
                rw [edf] at hn
                split at hn
                · assumption
                · cases hn
              refine ⟨d, n, rows, ls, t, rfl, N6.same (Same.tr s611 s12), r6, r1, hk.m, l20, fun _ u2 H13 s13 eu2 => ?_, fun hn => absurd h0 hn⟩
              refine last (Same.tr s12 s13) (.tup (s13 _ _ eu) eu2 rfl ?_ fun m x y hx hy => ?_)
              · rw [ni_len]
                unfold critL
                refine Nat.le_trans (List.length_filter_le _ _) ?_
                rw [List.length_range]
                omega
              · rw [hx] at hy
                cases hy
                rw [ni, List.getElem?_map] at hx
                cases e : (critL rows ls t)[m]? with
                | none => rw [e] at hx; cases hx
                | some v =>
                  rw [e] at hx
                  cases hx
                  exact .int _ _
            · have h0 : fdT rows ls t ≠ [] := fun z => hn (by rw [edf, if_pos z])
              refine ⟨d, n, rows, ls, t, rfl, N6.same (Same.tr s611 s12), r6, r1, hk.m, l20, fun h => absurd h h0, fun _ H13 s13 => ?_⟩
              exact last (Same.tr s12 s13) (.non _)
    · rintro σ H5 ⟨⟨v5, v6, v7, v8, v9, v10, rfl⟩, k5, p5⟩
      simp only [gStr2, gSeqH, tDc_c, tDGet, sDPut, rCat, tBreak, rExtend, tSeq, tAsg, tRet, tRetN, tDrop, tIfS, tNext, tNever, tOp, tUn, tVar, tC, rI0, rI, rU, tTest, tIf, tB, tAnd, tOr, tNot, tAndV, tOrV, tNotV, gName, gSub, gTupH, gCons, gNil, tYes, tCons, tNil, tLst, tTup, tCB, tCall, tMeth, tMake, tFld, sFld, tFor_c, tLc_c, iRng1, iList, iTup, iStr, iSeqB, iEnumB, tM1, tSl, tPart, tNoPart, rSlS, rIxS, tBM, rAppend, tIf, rEq, rNe, scal, hIx, hIxT, hIxB, hSet, hInt, hIntB, hLen, hLenT, hLenB, L2.start, wipe, List.map_cons, List.map_nil, List.set_cons_zero, List.set_cons_succ, List.set_nil, List.length_cons, List.length_nil, List.length_map, List.cons_append, List.nil_append, List.append_nil, List.replicate, List.getElem?_cons_zero, List.getElem?_cons_succ, Option.some.injEq, V.int.injEq, V.bl.injEq, V.ref.injEq, V.str.injEq, List.cons.injEq, exists_eq_left', exists_eq_left, exists_and_left, and_assoc, upd_same, upd_upd, HO.lst.injEq, HO.tup.injEq, atI_0, atI_1, atI_2, atI_3, set_1, set_2, set_3, CDiv, CPow, CMul, List.length_set, Int.reduceToNat, Int.reduceLE, Int.reduceLT, Int.reducePow, Int.reduceNeg, Nat.reduceAdd, Nat.reduceLT, Nat.reduceLeDiff, Nat.reducePow, Nat.zero_add, or_true, true_or, gt_iff_lt, ge_iff_le, and_true, true_and, decide_eq_true_eq, if_true, Bool.false_eq_true, if_false]
      refine ⟨by decide, fun tt htt => ?_⟩
      have s6 := same_new (o := .tup [.str "", .str "a", .str "AA", .str "BA", .str "G", .str "A "]) htt
      have e6 := upd_same (H := H5) (a := tt) (o := .tup [.str "", .str "a", .str "AA", .str "BA", .str "G", .str "A "])
      have ttp := p5.ne_p htt
      show spTake _ _ (upd H5 tt (.tup [.str "", .str "a", .str "AA", .str "BA", .str "G", .str "A "])) _ _
      generalize upd H5 tt (.tup [.str "", .str "a", .str "AA", .str "BA", .str "G", .str "A "]) = H6 at s6 e6
      refine take_pool (p5.same s6) (by decide) (by decide) fun r H7 r0 r1' k7 _ p7 => ?_
      have e7 := k7 _ _ ttp e6
      obtain ⟨x, hx, hx2⟩ : ∃ x : List Nat, atI [V.str "", .str "a", .str "AA", .str "BA", .str "G", .str "A "] r = some (.str (tx x)) ∧ x ∈ [[], [97], [65, 65], [66, 65], [71], [65, 32]] := by
        have hr : r = 0 ∨ r = 1 ∨ r = 2 ∨ r = 3 ∨ r = 4 ∨ r = 5 := by omega
        rcases hr with rfl | rfl | rfl | rfl | rfl | rfl
        · exact ⟨[], rfl, by decide⟩
        · exact ⟨[97], rfl, by decide⟩
        · exact ⟨[65, 65], rfl, by decide⟩
        · exact ⟨[66, 65], rfl, by decide⟩
        · exact ⟨[71], rfl, by decide⟩
        · exact ⟨[65, 32], rfl, by decide⟩
      refine ⟨_, _, rfl, e7, _, hx, ?_⟩
      refine take_pool p7 (by decide) (by decide) fun r2 H8 r20 r21 k8 _ p8 => ?_
      have k48 : Off1 p H4 H8 := ((k5.tr (Off1.of s6)).tr k7).tr k8
      have hsm : x.length ≤ 6 ∧ ∀ c ∈ x, c < 1000 := by
        simp only [List.mem_cons, List.not_mem_nil, or_false] at hx2
        rcases hx2 with rfl | rfl | rfl | rfl | rfl | rfl <;> exact ⟨by decide, by decide⟩
      exact ⟨nw, n, rows, ls, x, r2, rfl, hM4.off1 p4 k48, hk, hsm.1, hsm.2, bad_text r6 hx2, q⟩
end
end AK
set_option Elab.async false
set_option linter.all false
set_option maxRecDepth 100000
set_option maxHeartbeats 0
namespace AK
open PySem PySem.Spec PyProof.Rows L2
theorem law_at {l : PySem.W.OpenLaw} {w : World} {K : PySem.W.Frag} {mg : Str → Option Value} {h : Heap} {fa : Addr} {a : Ads} (X : K.In h) (T : Txt K mg a) (ea : a.a_law = fa)
    (hh : PySem.W.codeHdIn K a.cG_Network_init a.tG_Network_init = true) (ht : h.get? a.tG_Network_init = some { cls := .none, data := .fields #[] }) (hn : K.lookup a.tG_Network_init = none) :
    LamX.LawAtS l w K CX0 13 63 "script" mg fa h := by
  subst ea
  have hc := PySem.W.codeHd_of_K X hh
  have one : ∀ {C : Addr × Addr → Prop}, C (a.cG_Network_init, a.tG_Network_init) → ∀ p ∈ [(a.cG_Network_init, a.tG_Network_init)], C p := fun z p hp => by
    rw [List.mem_singleton.mp hp]
    exact z
  refine ⟨a.d_law, [(a.cG_Network_init, a.tG_Network_init)], spLaw K a.tG_Network_init, one ht, one hn, one hc, ?_, ?_, ?_⟩
  · intro s u
    exact T.B_law s u
  · intro H b ns hl hb hH hS
    exact ⟨b, ns, rfl, hS, hl, hb, hH _ (List.mem_singleton.mpr rfl), fun _ => rfl⟩
  · intro base hb hg hT
    have z := hT _ (List.mem_singleton.mpr rfl)
    exact ok_law T ⟨z.code, z.bm, z.gP⟩
theorem txt_of {K : PySem.W.Frag} {h : Heap} {mg : Str → Option Value} {w : World} (X : K.In h) (G : h.Ns mainGlobals mg) (c : He.SaysX faL fnL [] tfL exB w h K) :
    ∃ a : Ads, Txt K mg a ∧ a.a_law = He.ga K "law" ∧ a.cG_Network_init = (He.cT K ("Network", some "__init__")).1 ∧ a.tG_Network_init = (He.cT K ("Network", some "__init__")).2 := by
  have hx : ∀ (i : Nat) {b : Bool}, (exL K)[i]? = some b → b = true := fun i b e => List.all_eq_true.mp c.more b (List.mem_of_getElem? e)
  obtain ⟨fd_BadNetwork_init, FD_BadNetwork_init⟩ := c.t.d.def_ 0 (d := dd_BadNetwork_init) rfl
  have F_BadNetwork_init : Fun K "__init__" "BadNetwork.__init__" s_BadNetwork_init (He.fAd K ("BadNetwork", some "__init__")) fd_BadNetwork_init := fun_of FD_BadNetwork_init
  have b_BadNetwork_init := F_BadNetwork_init.binds (ps := ["self", "part", "number", "reason"]) fun _ _ _ _ _ _ us hl => match us, hl with | [_, _, _, _], _ => rfl
  obtain ⟨fd_Network_init, FD_Network_init⟩ := c.t.d.def_ 1 (d := dd_Network_init) rfl
  have F_Network_init : Fun K "__init__" "Network.__init__" s_Network_init (He.fAd K ("Network", some "__init__")) fd_Network_init := fun_of FD_Network_init
  have b_Network_init := F_Network_init.binds (ps := ["self", "variables", "nodes", "links"]) fun _ _ _ _ _ _ us hl => match us, hl with | [_, _, _, _], _ => rfl
  obtain ⟨fd_Network_node_letters, FD_Network_node_letters⟩ := c.t.d.def_ 2 (d := dd_Network_node_letters) rfl
  have F_Network_node_letters : Fun K "node_letters" "Network.node_letters" s_Network_node_letters (He.fAd K ("Network", some "node_letters")) fd_Network_node_letters := fun_of FD_Network_node_letters
  have b_Network_node_letters := F_Network_node_letters.binds (ps := ["self"]) fun _ _ _ _ _ _ us hl => match us, hl with | [_], _ => rfl
  obtain ⟨fd_Network_variable_letters, FD_Network_variable_letters⟩ := c.t.d.def_ 3 (d := dd_Network_variable_letters) rfl
  have F_Network_variable_letters : Fun K "variable_letters" "Network.variable_letters" s_Network_variable_letters (He.fAd K ("Network", some "variable_letters")) fd_Network_variable_letters := fun_of FD_Network_variable_letters
  have b_Network_variable_letters := F_Network_variable_letters.binds (ps := ["self"]) fun _ _ _ _ _ _ us hl => match us, hl with | [_], _ => rfl
  obtain ⟨fd_Network_messages, FD_Network_messages⟩ := c.t.d.def_ 4 (d := dd_Network_messages) rfl
  have F_Network_messages : Fun K "messages" "Network.messages" s_Network_messages (He.fAd K ("Network", some "messages")) fd_Network_messages := fun_of FD_Network_messages
  have b_Network_messages := F_Network_messages.binds (ps := ["self", "node"]) fun _ _ _ _ _ _ us hl => match us, hl with | [_, _], _ => rfl
  obtain ⟨fd_Network_all_messages, FD_Network_all_messages⟩ := c.t.d.def_ 5 (d := dd_Network_all_messages) rfl
  have F_Network_all_messages : Fun K "all_messages" "Network.all_messages" s_Network_all_messages (He.fAd K ("Network", some "all_messages")) fd_Network_all_messages := fun_of FD_Network_all_messages
  have b_Network_all_messages := F_Network_all_messages.binds (ps := ["self"]) fun _ _ _ _ _ _ us hl => match us, hl with | [_], _ => rfl
  obtain ⟨fd_is_message, FD_is_message⟩ := c.t.d.def_ 6 (d := dd_is_message) rfl
  have F_is_message : Fun K "is_message" "is_message" s_is_message (He.fAd K ("is_message", none)) fd_is_message := fun_of FD_is_message
  have b_is_message := F_is_message.binds (ps := ["variables", "text"]) fun _ _ _ _ _ _ us hl => match us, hl with | [_, _], _ => rfl
  obtain ⟨fd_is_link, FD_is_link⟩ := c.t.d.def_ 7 (d := dd_is_link) rfl
  have F_is_link : Fun K "is_link" "is_link" s_is_link (He.fAd K ("is_link", none)) fd_is_link := fun_of FD_is_link
  have b_is_link := F_is_link.binds (ps := ["nodes", "text"]) fun _ _ _ _ _ _ us hl => match us, hl with | [_, _], _ => rfl
  obtain ⟨fd_node_number, FD_node_number⟩ := c.t.d.def_ 8 (d := dd_node_number) rfl
  have F_node_number : Fun K "node_number" "node_number" s_node_number (He.fAd K ("node_number", none)) fd_node_number := fun_of FD_node_number
  have b_node_number := F_node_number.binds (ps := ["network", "node"]) fun _ _ _ _ _ _ us hl => match us, hl with | [_, _], _ => rfl
  obtain ⟨fd_require_set, FD_require_set⟩ := c.t.d.def_ 9 (d := dd_require_set) rfl
  have F_require_set : Fun K "require_set" "require_set" s_require_set (He.fAd K ("require_set", none)) fd_require_set := fun_of FD_require_set
  have b_require_set := F_require_set.binds (ps := ["network", "nodes"]) fun _ _ _ _ _ _ us hl => match us, hl with | [_, _], _ => rfl
  obtain ⟨fd_has_link, FD_has_link⟩ := c.t.d.def_ 10 (d := dd_has_link) rfl
  have F_has_link : Fun K "has_link" "has_link" s_has_link (He.fAd K ("has_link", none)) fd_has_link := fun_of FD_has_link
  have b_has_link := F_has_link.binds (ps := ["network", "link"]) fun _ _ _ _ _ _ us hl => match us, hl with | [_, _], _ => rfl
  obtain ⟨fd_require_link, FD_require_link⟩ := c.t.d.def_ 11 (d := dd_require_link) rfl
  have F_require_link : Fun K "require_link" "require_link" s_require_link (He.fAd K ("require_link", none)) fd_require_link := fun_of FD_require_link
  have b_require_link := F_require_link.binds (ps := ["network", "link"]) fun _ _ _ _ _ _ us hl => match us, hl with | [_, _], _ => rfl
  obtain ⟨fd_require_message, FD_require_message⟩ := c.t.d.def_ 12 (d := dd_require_message) rfl
  have F_require_message : Fun K "require_message" "require_message" s_require_message (He.fAd K ("require_message", none)) fd_require_message := fun_of FD_require_message
  have b_require_message := F_require_message.binds (ps := ["network", "node", "index"]) fun _ _ _ _ _ _ us hl => match us, hl with | [_, _, _], _ => rfl
  obtain ⟨fd_first_letters, FD_first_letters⟩ := c.t.d.def_ 13 (d := dd_first_letters) rfl
  have F_first_letters : Fun K "first_letters" "first_letters" s_first_letters (He.fAd K ("first_letters", none)) fd_first_letters := fun_of FD_first_letters
  have b_first_letters := F_first_letters.binds (ps := ["letters", "count"]) fun _ _ _ _ _ _ us hl => match us, hl with | [_, _], _ => rfl
  obtain ⟨fd_is_ascending, FD_is_ascending⟩ := c.t.d.def_ 14 (d := dd_is_ascending) rfl
  have F_is_ascending : Fun K "is_ascending" "is_ascending" s_is_ascending (He.fAd K ("is_ascending", none)) fd_is_ascending := fun_of FD_is_ascending
  have b_is_ascending := F_is_ascending.binds (ps := ["letters", "text"]) fun _ _ _ _ _ _ us hl => match us, hl with | [_, _], _ => rfl
  obtain ⟨fd_check_variables, FD_check_variables⟩ := c.t.d.def_ 15 (d := dd_check_variables) rfl
  have F_check_variables : Fun K "_check_variables" "_check_variables" s_check_variables (He.fAd K ("_check_variables", none)) fd_check_variables := fun_of FD_check_variables
  have b_check_variables := F_check_variables.binds (ps := ["variables"]) fun _ _ _ _ _ _ us hl => match us, hl with | [_], _ => rfl
  obtain ⟨fd_check_nodes, FD_check_nodes⟩ := c.t.d.def_ 16 (d := dd_check_nodes) rfl
  have F_check_nodes : Fun K "_check_nodes" "_check_nodes" s_check_nodes (He.fAd K ("_check_nodes", none)) fd_check_nodes := fun_of FD_check_nodes
  have b_check_nodes := F_check_nodes.binds (ps := ["variables", "nodes"]) fun _ _ _ _ _ _ us hl => match us, hl with | [_, _], _ => rfl
  obtain ⟨fd_check_links, FD_check_links⟩ := c.t.d.def_ 17 (d := dd_check_links) rfl
  have F_check_links : Fun K "_check_links" "_check_links" s_check_links (He.fAd K ("_check_links", none)) fd_check_links := fun_of FD_check_links
  have b_check_links := F_check_links.binds (ps := ["nodes", "links"]) fun _ _ _ _ _ _ us hl => match us, hl with | [_, _], _ => rfl
  obtain ⟨fd_mask_of, FD_mask_of⟩ := c.t.d.def_ 18 (d := dd_mask_of) rfl
  have F_mask_of : Fun K "mask_of" "mask_of" s_mask_of (He.fAd K ("mask_of", none)) fd_mask_of := fun_of FD_mask_of
  have b_mask_of := F_mask_of.binds (ps := ["parity"]) fun _ _ _ _ _ _ us hl => match us, hl with | [_], _ => rfl
  obtain ⟨fd_remainder, FD_remainder⟩ := c.t.d.def_ 19 (d := dd_remainder) rfl
  have F_remainder : Fun K "remainder" "remainder" s_remainder (He.fAd K ("remainder", none)) fd_remainder := fun_of FD_remainder
  have b_remainder := F_remainder.binds (ps := ["span", "mask"]) fun _ _ _ _ _ _ us hl => match us, hl with | [_, _], _ => rfl
  obtain ⟨fd_spanned, FD_spanned⟩ := c.t.d.def_ 20 (d := dd_spanned) rfl
  have b_spanned : Binds K fd_spanned ["masks", "span"] [] := def_all FD_spanned 2 rfl (fun _ _ _ _ _ _ _ us its hl hi => match us, its, hl, hi with | [_, _], [_], _, _ => ⟨_, rfl, rfl⟩)
  have b1_spanned : ∃ ds, Vals [V.ref (He.dflAt ("spanned", none) 0 K)] ds ∧ Binds K fd_spanned ["masks", "span"] ds := FunD.binds1 FD_spanned 1 0 (by simp [He.DefD.dvs, dd_spanned]) (by rfl) (fun _ _ _ _ _ _ _ us its hl hi => match us, its, hl, hi with | [_], [_], _, _ => ⟨_, rfl, rfl⟩)
  obtain ⟨fd_first_masks, FD_first_masks⟩ := c.t.d.def_ 21 (d := dd_first_masks) rfl
  have F_first_masks : Fun K "first_masks" "first_masks" s_first_masks (He.fAd K ("first_masks", none)) fd_first_masks := fun_of FD_first_masks
  have b_first_masks := F_first_masks.binds (ps := ["network"]) fun _ _ _ _ _ _ us hl => match us, hl with | [_], _ => rfl
  obtain ⟨fd_Margins_init, FD_Margins_init⟩ := c.t.d.def_ 22 (d := dd_Margins_init) rfl
  have F_Margins_init : Fun K "__init__" "Margins.__init__" s_Margins_init (He.fAd K ("Margins", some "__init__")) fd_Margins_init := fun_of FD_Margins_init
  have b_Margins_init := F_Margins_init.binds (ps := ["self", "node_spans", "links"]) fun _ _ _ _ _ _ us hl => match us, hl with | [_, _, _], _ => rfl
  obtain ⟨fd_Margins_deficient, FD_Margins_deficient⟩ := c.t.d.def_ 23 (d := dd_Margins_deficient) rfl
  have F_Margins_deficient : Fun K "deficient" "Margins.deficient" s_Margins_deficient (He.fAd K ("Margins", some "deficient")) fd_Margins_deficient := fun_of FD_Margins_deficient
  have b_Margins_deficient := F_Margins_deficient.binds (ps := ["self"]) fun _ _ _ _ _ _ us hl => match us, hl with | [_], _ => rfl
  obtain ⟨fd_Margins_tight, FD_Margins_tight⟩ := c.t.d.def_ 24 (d := dd_Margins_tight) rfl
  have F_Margins_tight : Fun K "tight" "Margins.tight" s_Margins_tight (He.fAd K ("Margins", some "tight")) fd_Margins_tight := fun_of FD_Margins_tight
  have b_Margins_tight := F_Margins_tight.binds (ps := ["self"]) fun _ _ _ _ _ _ us hl => match us, hl with | [_], _ => rfl
  obtain ⟨fd_Margins_first_deficient, FD_Margins_first_deficient⟩ := c.t.d.def_ 25 (d := dd_Margins_first_deficient) rfl
  have F_Margins_first_deficient : Fun K "first_deficient" "Margins.first_deficient" s_Margins_first_deficient (He.fAd K ("Margins", some "first_deficient")) fd_Margins_first_deficient := fun_of FD_Margins_first_deficient
  have b_Margins_first_deficient := F_Margins_first_deficient.binds (ps := ["self"]) fun _ _ _ _ _ _ us hl => match us, hl with | [_], _ => rfl
  obtain ⟨fd_Margins_is_feasible, FD_Margins_is_feasible⟩ := c.t.d.def_ 26 (d := dd_Margins_is_feasible) rfl
  have F_Margins_is_feasible : Fun K "is_feasible" "Margins.is_feasible" s_Margins_is_feasible (He.fAd K ("Margins", some "is_feasible")) fd_Margins_is_feasible := fun_of FD_Margins_is_feasible
  have b_Margins_is_feasible := F_Margins_is_feasible.binds (ps := ["self"]) fun _ _ _ _ _ _ us hl => match us, hl with | [_], _ => rfl
  obtain ⟨fd_Margins_needed, FD_Margins_needed⟩ := c.t.d.def_ 27 (d := dd_Margins_needed) rfl
  have F_Margins_needed : Fun K "needed" "Margins.needed" s_Margins_needed (He.fAd K ("Margins", some "needed")) fd_Margins_needed := fun_of FD_Margins_needed
  have b_Margins_needed := F_Margins_needed.binds (ps := ["self"]) fun _ _ _ _ _ _ us hl => match us, hl with | [_], _ => rfl
  obtain ⟨fd_Margins_tolerance, FD_Margins_tolerance⟩ := c.t.d.def_ 28 (d := dd_Margins_tolerance) rfl
  have F_Margins_tolerance : Fun K "tolerance" "Margins.tolerance" s_Margins_tolerance (He.fAd K ("Margins", some "tolerance")) fd_Margins_tolerance := fun_of FD_Margins_tolerance
  have b_Margins_tolerance := F_Margins_tolerance.binds (ps := ["self"]) fun _ _ _ _ _ _ us hl => match us, hl with | [_], _ => rfl
  obtain ⟨fd_Margins_tolerance_after, FD_Margins_tolerance_after⟩ := c.t.d.def_ 29 (d := dd_Margins_tolerance_after) rfl
  have F_Margins_tolerance_after : Fun K "tolerance_after" "Margins.tolerance_after" s_Margins_tolerance_after (He.fAd K ("Margins", some "tolerance_after")) fd_Margins_tolerance_after := fun_of FD_Margins_tolerance_after
  have b_Margins_tolerance_after := F_Margins_tolerance_after.binds (ps := ["self", "link", "mask"]) fun _ _ _ _ _ _ us hl => match us, hl with | [_, _, _], _ => rfl
  obtain ⟨fd_first_spans, FD_first_spans⟩ := c.t.d.def_ 30 (d := dd_first_spans) rfl
  have F_first_spans : Fun K "first_spans" "first_spans" s_first_spans (He.fAd K ("first_spans", none)) fd_first_spans := fun_of FD_first_spans
  have b_first_spans := F_first_spans.binds (ps := ["network"]) fun _ _ _ _ _ _ us hl => match us, hl with | [_], _ => rfl
  obtain ⟨fd_margins_of, FD_margins_of⟩ := c.t.d.def_ 31 (d := dd_margins_of) rfl
  have F_margins_of : Fun K "margins_of" "margins_of" s_margins_of (He.fAd K ("margins_of", none)) fd_margins_of := fun_of FD_margins_of
  have b_margins_of := F_margins_of.binds (ps := ["network"]) fun _ _ _ _ _ _ us hl => match us, hl with | [_], _ => rfl
  obtain ⟨fd_ordered_sets, FD_ordered_sets⟩ := c.t.d.def_ 32 (d := dd_ordered_sets) rfl
  have F_ordered_sets : Fun K "ordered_sets" "ordered_sets" s_ordered_sets (He.fAd K ("ordered_sets", none)) fd_ordered_sets := fun_of FD_ordered_sets
  have b_ordered_sets := F_ordered_sets.binds (ps := ["letters"]) fun _ _ _ _ _ _ us hl => match us, hl with | [_], _ => rfl
  obtain ⟨fd_enters, FD_enters⟩ := c.t.d.def_ 33 (d := dd_enters) rfl
  have F_enters : Fun K "enters" "enters" s_enters (He.fAd K ("enters", none)) fd_enters := fun_of FD_enters
  have b_enters := F_enters.binds (ps := ["link", "nodes"]) fun _ _ _ _ _ _ us hl => match us, hl with | [_, _], _ => rfl
  obtain ⟨fd_enters_any, FD_enters_any⟩ := c.t.d.def_ 34 (d := dd_enters_any) rfl
  have F_enters_any : Fun K "enters_any" "enters_any" s_enters_any (He.fAd K ("enters_any", none)) fd_enters_any := fun_of FD_enters_any
  have b_enters_any := F_enters_any.binds (ps := ["link", "sets"]) fun _ _ _ _ _ _ us hl => match us, hl with | [_, _], _ => rfl
  obtain ⟨fd_entering, FD_entering⟩ := c.t.d.def_ 35 (d := dd_entering) rfl
  have F_entering : Fun K "entering" "entering" s_entering (He.fAd K ("entering", none)) fd_entering := fun_of FD_entering
  have b_entering := F_entering.binds (ps := ["links", "nodes"]) fun _ _ _ _ _ _ us hl => match us, hl with | [_, _], _ => rfl
  obtain ⟨fd_Sending_init, FD_Sending_init⟩ := c.t.d.def_ 36 (d := dd_Sending_init) rfl
  have F_Sending_init : Fun K "__init__" "Sending.__init__" s_Sending_init (He.fAd K ("Sending", some "__init__")) fd_Sending_init := fun_of FD_Sending_init
  have b_Sending_init := F_Sending_init.binds (ps := ["self", "network"]) fun _ _ _ _ _ _ us hl => match us, hl with | [_, _], _ => rfl
  obtain ⟨fd_Sending_learn, FD_Sending_learn⟩ := c.t.d.def_ 37 (d := dd_Sending_learn) rfl
  have F_Sending_learn : Fun K "learn" "Sending.learn" s_Sending_learn (He.fAd K ("Sending", some "learn")) fd_Sending_learn := fun_of FD_Sending_learn
  have b_Sending_learn := F_Sending_learn.binds (ps := ["self", "node", "text"]) fun _ _ _ _ _ _ us hl => match us, hl with | [_, _, _], _ => rfl
  obtain ⟨fd_Sending_hindrance, FD_Sending_hindrance⟩ := c.t.d.def_ 38 (d := dd_Sending_hindrance) rfl
  have F_Sending_hindrance : Fun K "hindrance" "Sending.hindrance" s_Sending_hindrance (He.fAd K ("Sending", some "hindrance")) fd_Sending_hindrance := fun_of FD_Sending_hindrance
  have b_Sending_hindrance := F_Sending_hindrance.binds (ps := ["self", "transmission"]) fun _ _ _ _ _ _ us hl => match us, hl with | [_, _], _ => rfl
  obtain ⟨fd_Sending_send, FD_Sending_send⟩ := c.t.d.def_ 39 (d := dd_Sending_send) rfl
  have F_Sending_send : Fun K "send" "Sending.send" s_Sending_send (He.fAd K ("Sending", some "send")) fd_Sending_send := fun_of FD_Sending_send
  have b_Sending_send := F_Sending_send.binds (ps := ["self", "transmission"]) fun _ _ _ _ _ _ us hl => match us, hl with | [_, _], _ => rfl
  obtain ⟨fd_Sending_margins, FD_Sending_margins⟩ := c.t.d.def_ 40 (d := dd_Sending_margins) rfl
  have F_Sending_margins : Fun K "margins" "Sending.margins" s_Sending_margins (He.fAd K ("Sending", some "margins")) fd_Sending_margins := fun_of FD_Sending_margins
  have b_Sending_margins := F_Sending_margins.binds (ps := ["self"]) fun _ _ _ _ _ _ us hl => match us, hl with | [_], _ => rfl
  obtain ⟨fd_Sending_is_informed, FD_Sending_is_informed⟩ := c.t.d.def_ 41 (d := dd_Sending_is_informed) rfl
  have F_Sending_is_informed : Fun K "is_informed" "Sending.is_informed" s_Sending_is_informed (He.fAd K ("Sending", some "is_informed")) fd_Sending_is_informed := fun_of FD_Sending_is_informed
  have b_Sending_is_informed := F_Sending_is_informed.binds (ps := ["self", "node"]) fun _ _ _ _ _ _ us hl => match us, hl with | [_, _], _ => rfl
  obtain ⟨fd_Sending_is_over, FD_Sending_is_over⟩ := c.t.d.def_ 42 (d := dd_Sending_is_over) rfl
  have F_Sending_is_over : Fun K "is_over" "Sending.is_over" s_Sending_is_over (He.fAd K ("Sending", some "is_over")) fd_Sending_is_over := fun_of FD_Sending_is_over
  have b_Sending_is_over := F_Sending_is_over.binds (ps := ["self"]) fun _ _ _ _ _ _ us hl => match us, hl with | [_], _ => rfl
  obtain ⟨fd_Sending_possible_ones, FD_Sending_possible_ones⟩ := c.t.d.def_ 43 (d := dd_Sending_possible_ones) rfl
  have F_Sending_possible_ones : Fun K "possible_ones" "Sending.possible_ones" s_Sending_possible_ones (He.fAd K ("Sending", some "possible_ones")) fd_Sending_possible_ones := fun_of FD_Sending_possible_ones
  have b_Sending_possible_ones := F_Sending_possible_ones.binds (ps := ["self", "margins", "tight"]) fun _ _ _ _ _ _ us hl => match us, hl with | [_, _, _], _ => rfl
  obtain ⟨fd_Sending_next_ones, FD_Sending_next_ones⟩ := c.t.d.def_ 44 (d := dd_Sending_next_ones) rfl
  have F_Sending_next_ones : Fun K "next_ones" "Sending.next_ones" s_Sending_next_ones (He.fAd K ("Sending", some "next_ones")) fd_Sending_next_ones := fun_of FD_Sending_next_ones
  have b_Sending_next_ones := F_Sending_next_ones.binds (ps := ["self"]) fun _ _ _ _ _ _ us hl => match us, hl with | [_], _ => rfl
  obtain ⟨fd_Sending_finish, FD_Sending_finish⟩ := c.t.d.def_ 45 (d := dd_Sending_finish) rfl
  have F_Sending_finish : Fun K "finish" "Sending.finish" s_Sending_finish (He.fAd K ("Sending", some "finish")) fd_Sending_finish := fun_of FD_Sending_finish
  have b_Sending_finish := F_Sending_finish.binds (ps := ["self"]) fun _ _ _ _ _ _ us hl => match us, hl with | [_], _ => rfl
  obtain ⟨fd_checked_transmissions, FD_checked_transmissions⟩ := c.t.d.def_ 46 (d := dd_checked_transmissions) rfl
  have F_checked_transmissions : Fun K "checked_transmissions" "checked_transmissions" s_checked_transmissions (He.fAd K ("checked_transmissions", none)) fd_checked_transmissions := fun_of FD_checked_transmissions
  have b_checked_transmissions := F_checked_transmissions.binds (ps := ["network", "transmissions"]) fun _ _ _ _ _ _ us hl => match us, hl with | [_, _], _ => rfl
  obtain ⟨fd_sending_after, FD_sending_after⟩ := c.t.d.def_ 47 (d := dd_sending_after) rfl
  have F_sending_after : Fun K "sending_after" "sending_after" s_sending_after (He.fAd K ("sending_after", none)) fd_sending_after := fun_of FD_sending_after
  have b_sending_after := F_sending_after.binds (ps := ["network", "checked"]) fun _ _ _ _ _ _ us hl => match us, hl with | [_, _], _ => rfl
  obtain ⟨fd_is_new_to_all, FD_is_new_to_all⟩ := c.t.d.def_ 48 (d := dd_is_new_to_all) rfl
  have F_is_new_to_all : Fun K "is_new_to_all" "is_new_to_all" s_is_new_to_all (He.fAd K ("is_new_to_all", none)) fd_is_new_to_all := fun_of FD_is_new_to_all
  have b_is_new_to_all := F_is_new_to_all.binds (ps := ["spans", "mask"]) fun _ _ _ _ _ _ us hl => match us, hl with | [_, _], _ => rfl
  obtain ⟨fd_first_set, FD_first_set⟩ := c.t.d.def_ 49 (d := dd_first_set) rfl
  have F_first_set : Fun K "first_set" "first_set" s_first_set (He.fAd K ("first_set", none)) fd_first_set := fun_of FD_first_set
  have b_first_set := F_first_set.binds (ps := ["network", "targets"]) fun _ _ _ _ _ _ us hl => match us, hl with | [_, _], _ => rfl
  obtain ⟨fd_is_feasible_for, FD_is_feasible_for⟩ := c.t.d.def_ 50 (d := dd_is_feasible_for) rfl
  have F_is_feasible_for : Fun K "is_feasible_for" "is_feasible_for" s_is_feasible_for (He.fAd K ("is_feasible_for", none)) fd_is_feasible_for := fun_of FD_is_feasible_for
  have b_is_feasible_for := F_is_feasible_for.binds (ps := ["network", "targets"]) fun _ _ _ _ _ _ us hl => match us, hl with | [_, _], _ => rfl
  obtain ⟨fd_feasible_alone, FD_feasible_alone⟩ := c.t.d.def_ 51 (d := dd_feasible_alone) rfl
  have F_feasible_alone : Fun K "feasible_alone" "feasible_alone" s_feasible_alone (He.fAd K ("feasible_alone", none)) fd_feasible_alone := fun_of FD_feasible_alone
  have b_feasible_alone := F_feasible_alone.binds (ps := ["network", "targets"]) fun _ _ _ _ _ _ us hl => match us, hl with | [_, _], _ => rfl
  obtain ⟨fd_critical_links, FD_critical_links⟩ := c.t.d.def_ 52 (d := dd_critical_links) rfl
  have F_critical_links : Fun K "critical_links" "critical_links" s_critical_links (He.fAd K ("critical_links", none)) fd_critical_links := fun_of FD_critical_links
  have b_critical_links := F_critical_links.binds (ps := ["network", "targets"]) fun _ _ _ _ _ _ us hl => match us, hl with | [_, _], _ => rfl
  obtain ⟨fd_delivery, FD_delivery⟩ := c.t.d.def_ 53 (d := dd_delivery) rfl
  have F_delivery : Fun K "delivery" "delivery" s_delivery (He.fAd K ("delivery", none)) fd_delivery := fun_of FD_delivery
  have b_delivery := F_delivery.binds (ps := ["network", "targets", "target"]) fun _ _ _ _ _ _ us hl => match us, hl with | [_, _, _], _ => rfl
  obtain ⟨fd_is_complete_for, FD_is_complete_for⟩ := c.t.d.def_ 54 (d := dd_is_complete_for) rfl
  have F_is_complete_for : Fun K "is_complete_for" "is_complete_for" s_is_complete_for (He.fAd K ("is_complete_for", none)) fd_is_complete_for := fun_of FD_is_complete_for
  have b_is_complete_for := F_is_complete_for.binds (ps := ["network", "targets", "transmissions"]) fun _ _ _ _ _ _ us hl => match us, hl with | [_, _, _], _ => rfl
  obtain ⟨fd_with_any, FD_with_any⟩ := c.t.d.def_ 55 (d := dd_with_any) rfl
  have F_with_any : Fun K "_with_any" "_with_any" s_with_any (He.fAd K ("_with_any", none)) fd_with_any := fun_of FD_with_any
  have b_with_any := F_with_any.binds (ps := ["sets", "targets"]) fun _ _ _ _ _ _ us hl => match us, hl with | [_, _], _ => rfl
  obtain ⟨fd_first_with, FD_first_with⟩ := c.t.d.def_ 56 (d := dd_first_with) rfl
  have F_first_with : Fun K "_first_with" "_first_with" s_first_with (He.fAd K ("_first_with", none)) fd_first_with := fun_of FD_first_with
  have b_first_with := F_first_with.binds (ps := ["sets", "targets"]) fun _ _ _ _ _ _ us hl => match us, hl with | [_, _], _ => rfl
  obtain ⟨fd_leading_to, FD_leading_to⟩ := c.t.d.def_ 57 (d := dd_leading_to) rfl
  have F_leading_to : Fun K "_leading_to" "_leading_to" s_leading_to (He.fAd K ("_leading_to", none)) fd_leading_to := fun_of FD_leading_to
  have b_leading_to := F_leading_to.binds (ps := ["network", "taken", "target"]) fun _ _ _ _ _ _ us hl => match us, hl with | [_, _, _], _ => rfl
  obtain ⟨fd_law_pool, FD_law_pool⟩ := c.t.d.def_ 58 (d := dd_law_pool) rfl
  have F_law_pool : Fun K "_law_pool" "_law_pool" s_law_pool (He.fAd K ("_law_pool", none)) fd_law_pool := fun_of FD_law_pool
  have b_law_pool := F_law_pool.binds (ps := ["script"]) fun _ _ _ _ _ _ us hl => match us, hl with | [_], _ => rfl
  obtain ⟨fd_law_take, FD_law_take⟩ := c.t.d.def_ 59 (d := dd_law_take) rfl
  have F_law_take : Fun K "_law_take" "_law_take" s_law_take (He.fAd K ("_law_take", none)) fd_law_take := fun_of FD_law_take
  have b_law_take := F_law_take.binds (ps := ["pool", "many"]) fun _ _ _ _ _ _ us hl => match us, hl with | [_, _], _ => rfl
  obtain ⟨fd_law_is_integer, FD_law_is_integer⟩ := c.t.d.def_ 60 (d := dd_law_is_integer) rfl
  have F_law_is_integer : Fun K "_law_is_integer" "_law_is_integer" s_law_is_integer (He.fAd K ("_law_is_integer", none)) fd_law_is_integer := fun_of FD_law_is_integer
  have b_law_is_integer := F_law_is_integer.binds (ps := ["actual"]) fun _ _ _ _ _ _ us hl => match us, hl with | [_], _ => rfl
  obtain ⟨fd_law_same, FD_law_same⟩ := c.t.d.def_ 61 (d := dd_law_same) rfl
  have F_law_same : Fun K "_law_same" "_law_same" s_law_same (He.fAd K ("_law_same", none)) fd_law_same := fun_of FD_law_same
  have b_law_same := F_law_same.binds (ps := ["actual", "due"]) fun _ _ _ _ _ _ us hl => match us, hl with | [_, _], _ => rfl
  obtain ⟨fd_law_pick, FD_law_pick⟩ := c.t.d.def_ 62 (d := dd_law_pick) rfl
  have F_law_pick : Fun K "_law_pick" "_law_pick" s_law_pick (He.fAd K ("_law_pick", none)) fd_law_pick := fun_of FD_law_pick
  have b_law_pick := F_law_pick.binds (ps := ["pool", "rows"]) fun _ _ _ _ _ _ us hl => match us, hl with | [_, _], _ => rfl
  obtain ⟨fd_law_parity, FD_law_parity⟩ := c.t.d.def_ 63 (d := dd_law_parity) rfl
  have F_law_parity : Fun K "_law_parity" "_law_parity" s_law_parity (He.fAd K ("_law_parity", none)) fd_law_parity := fun_of FD_law_parity
  have b_law_parity := F_law_parity.binds (ps := ["pool", "variables"]) fun _ _ _ _ _ _ us hl => match us, hl with | [_, _], _ => rfl
  obtain ⟨fd_law_message, FD_law_message⟩ := c.t.d.def_ 64 (d := dd_law_message) rfl
  have F_law_message : Fun K "_law_message" "_law_message" s_law_message (He.fAd K ("_law_message", none)) fd_law_message := fun_of FD_law_message
  have b_law_message := F_law_message.binds (ps := ["pool", "variables"]) fun _ _ _ _ _ _ us hl => match us, hl with | [_, _], _ => rfl
  obtain ⟨fd_law_sum, FD_law_sum⟩ := c.t.d.def_ 65 (d := dd_law_sum) rfl
  have F_law_sum : Fun K "_law_sum" "_law_sum" s_law_sum (He.fAd K ("_law_sum", none)) fd_law_sum := fun_of FD_law_sum
  have b_law_sum := F_law_sum.binds (ps := ["texts"]) fun _ _ _ _ _ _ us hl => match us, hl with | [_], _ => rfl
  obtain ⟨fd_law_derived, FD_law_derived⟩ := c.t.d.def_ 66 (d := dd_law_derived) rfl
  have F_law_derived : Fun K "_law_derived" "_law_derived" s_law_derived (He.fAd K ("_law_derived", none)) fd_law_derived := fun_of FD_law_derived
  have b_law_derived := F_law_derived.binds (ps := ["messages"]) fun _ _ _ _ _ _ us hl => match us, hl with | [_], _ => rfl
  obtain ⟨fd_law_rank, FD_law_rank⟩ := c.t.d.def_ 67 (d := dd_law_rank) rfl
  have F_law_rank : Fun K "_law_rank" "_law_rank" s_law_rank (He.fAd K ("_law_rank", none)) fd_law_rank := fun_of FD_law_rank
  have b_law_rank := F_law_rank.binds (ps := ["messages"]) fun _ _ _ _ _ _ us hl => match us, hl with | [_], _ => rfl
  obtain ⟨fd_law_some_messages, FD_law_some_messages⟩ := c.t.d.def_ 68 (d := dd_law_some_messages) rfl
  have F_law_some_messages : Fun K "_law_some_messages" "_law_some_messages" s_law_some_messages (He.fAd K ("_law_some_messages", none)) fd_law_some_messages := fun_of FD_law_some_messages
  have b_law_some_messages := F_law_some_messages.binds (ps := ["pool", "variables", "most"]) fun _ _ _ _ _ _ us hl => match us, hl with | [_, _, _], _ => rfl
  obtain ⟨fd_law_drawn, FD_law_drawn⟩ := c.t.d.def_ 69 (d := dd_law_drawn) rfl
  have F_law_drawn : Fun K "_law_drawn" "_law_drawn" s_law_drawn (He.fAd K ("_law_drawn", none)) fd_law_drawn := fun_of FD_law_drawn
  have b_law_drawn := F_law_drawn.binds (ps := ["pool", "nodes", "links"]) fun _ _ _ _ _ _ us hl => match us, hl with | [_, _, _], _ => rfl
  obtain ⟨fd_law_filled, FD_law_filled⟩ := c.t.d.def_ 70 (d := dd_law_filled) rfl
  have F_law_filled : Fun K "_law_filled" "_law_filled" s_law_filled (He.fAd K ("_law_filled", none)) fd_law_filled := fun_of FD_law_filled
  have b_law_filled := F_law_filled.binds (ps := ["pool", "nodes", "links"]) fun _ _ _ _ _ _ us hl => match us, hl with | [_, _, _], _ => rfl
  obtain ⟨fd_law_network, FD_law_network⟩ := c.t.d.def_ 71 (d := dd_law_network) rfl
  have F_law_network : Fun K "_law_network" "_law_network" s_law_network (He.fAd K ("_law_network", none)) fd_law_network := fun_of FD_law_network
  have b_law_network := F_law_network.binds (ps := ["pool", "nodes", "links"]) fun _ _ _ _ _ _ us hl => match us, hl with | [_, _, _], _ => rfl
  obtain ⟨fd_law_shaped, FD_law_shaped⟩ := c.t.d.def_ 72 (d := dd_law_shaped) rfl
  have F_law_shaped : Fun K "_law_shaped" "_law_shaped" s_law_shaped (He.fAd K ("_law_shaped", none)) fd_law_shaped := fun_of FD_law_shaped
  have b_law_shaped := F_law_shaped.binds (ps := ["pool", "rows"]) fun _ _ _ _ _ _ us hl => match us, hl with | [_, _], _ => rfl
  obtain ⟨fd_law_handed, FD_law_handed⟩ := c.t.d.def_ 73 (d := dd_law_handed) rfl
  have F_law_handed : Fun K "_law_handed" "_law_handed" s_law_handed (He.fAd K ("_law_handed", none)) fd_law_handed := fun_of FD_law_handed
  have b_law_handed := F_law_handed.binds (ps := ["pool", "network"]) fun _ _ _ _ _ _ us hl => match us, hl with | [_, _], _ => rfl
  obtain ⟨fd_law_sets, FD_law_sets⟩ := c.t.d.def_ 74 (d := dd_law_sets) rfl
  have F_law_sets : Fun K "_law_sets" "_law_sets" s_law_sets (He.fAd K ("_law_sets", none)) fd_law_sets := fun_of FD_law_sets
  have b_law_sets := F_law_sets.binds (ps := ["many"]) fun _ _ _ _ _ _ us hl => match us, hl with | [_], _ => rfl
  obtain ⟨fd_law_messages_of, FD_law_messages_of⟩ := c.t.d.def_ 75 (d := dd_law_messages_of) rfl
  have F_law_messages_of : Fun K "_law_messages_of" "_law_messages_of" s_law_messages_of (He.fAd K ("_law_messages_of", none)) fd_law_messages_of := fun_of FD_law_messages_of
  have b_law_messages_of := F_law_messages_of.binds (ps := ["network", "letters"]) fun _ _ _ _ _ _ us hl => match us, hl with | [_, _], _ => rfl
  obtain ⟨fd_law_demand, FD_law_demand⟩ := c.t.d.def_ 76 (d := dd_law_demand) rfl
  have F_law_demand : Fun K "_law_demand" "_law_demand" s_law_demand (He.fAd K ("_law_demand", none)) fd_law_demand := fun_of FD_law_demand
  have b_law_demand := F_law_demand.binds (ps := ["network", "letters"]) fun _ _ _ _ _ _ us hl => match us, hl with | [_, _], _ => rfl
  obtain ⟨fd_law_entering, FD_law_entering⟩ := c.t.d.def_ 77 (d := dd_law_entering) rfl
  have F_law_entering : Fun K "_law_entering" "_law_entering" s_law_entering (He.fAd K ("_law_entering", none)) fd_law_entering := fun_of FD_law_entering
  have b_law_entering := F_law_entering.binds (ps := ["network", "letters"]) fun _ _ _ _ _ _ us hl => match us, hl with | [_, _], _ => rfl
  obtain ⟨fd_law_deficient, FD_law_deficient⟩ := c.t.d.def_ 78 (d := dd_law_deficient) rfl
  have F_law_deficient : Fun K "_law_deficient" "_law_deficient" s_law_deficient (He.fAd K ("_law_deficient", none)) fd_law_deficient := fun_of FD_law_deficient
  have b_law_deficient := F_law_deficient.binds (ps := ["network"]) fun _ _ _ _ _ _ us hl => match us, hl with | [_], _ => rfl
  obtain ⟨fd_law_first_set, FD_law_first_set⟩ := c.t.d.def_ 79 (d := dd_law_first_set) rfl
  have F_law_first_set : Fun K "_law_first_set" "_law_first_set" s_law_first_set (He.fAd K ("_law_first_set", none)) fd_law_first_set := fun_of FD_law_first_set
  have b_law_first_set := F_law_first_set.binds (ps := ["network", "targets"]) fun _ _ _ _ _ _ us hl => match us, hl with | [_, _], _ => rfl
  obtain ⟨fd_law_targets, FD_law_targets⟩ := c.t.d.def_ 80 (d := dd_law_targets) rfl
  have F_law_targets : Fun K "_law_targets" "_law_targets" s_law_targets (He.fAd K ("_law_targets", none)) fd_law_targets := fun_of FD_law_targets
  have b_law_targets := F_law_targets.binds (ps := ["pool", "network"]) fun _ _ _ _ _ _ us hl => match us, hl with | [_, _], _ => rfl
  obtain ⟨fd_law_critical, FD_law_critical⟩ := c.t.d.def_ 81 (d := dd_law_critical) rfl
  have F_law_critical : Fun K "_law_critical" "_law_critical" s_law_critical (He.fAd K ("_law_critical", none)) fd_law_critical := fun_of FD_law_critical
  have b_law_critical := F_law_critical.binds (ps := ["network", "targets"]) fun _ _ _ _ _ _ us hl => match us, hl with | [_, _], _ => rfl
  obtain ⟨fd_law_refused, FD_law_refused⟩ := c.t.d.def_ 82 (d := dd_law_refused) rfl
  have F_law_refused : Fun K "_law_refused" "_law_refused" s_law_refused (He.fAd K ("_law_refused", none)) fd_law_refused := fun_of FD_law_refused
  have b_law_refused := F_law_refused.binds (ps := ["network", "text", "kind"]) fun _ _ _ _ _ _ us hl => match us, hl with | [_, _, _], _ => rfl
  obtain ⟨fd_law, FD_law⟩ := c.t.d.def_ 83 (d := dd_law) rfl
  have F_law : Fun K "law" "law" s_law (He.fAd K ("law", none)) fd_law := fun_of FD_law
  have b_law := F_law.binds (ps := ["script"]) fun _ _ _ _ _ _ us hl => match us, hl with | [_], _ => rfl
  have B_law := FunD.bindsA (ps := ["script"]) FD_law fun _ _ _ _ _ _ us hl => match us, hl with | [_], _ => rfl
  obtain ⟨t_VARIABLE_LETTERS, m_VARIABLE_LETTERS⟩ := He.str_ok X G (c.t.d.fact 106 (f := .str "VARIABLE_LETTERS" "abcdefghijklmnopqrstuvwxyz") rfl)
  obtain ⟨t_NODE_LETTERS, m_NODE_LETTERS⟩ := He.str_ok X G (c.t.d.fact 107 (f := .str "NODE_LETTERS" "ABCDEFGHIJKLMNOPQRSTUVWXYZ") rfl)
  obtain ⟨t_MOST_VARIABLES, m_MOST_VARIABLES⟩ := He.int_ok X G (c.t.d.fact 108 (f := .int "MOST_VARIABLES" 6) rfl)
  obtain ⟨t_MOST_NODES, m_MOST_NODES⟩ := He.int_ok X G (c.t.d.fact 109 (f := .int "MOST_NODES" 6) rfl)
  obtain ⟨t_MOST_MESSAGES, m_MOST_MESSAGES⟩ := He.int_ok X G (c.t.d.fact 110 (f := .int "MOST_MESSAGES" 4) rfl)
  obtain ⟨t_MOST_LINKS, m_MOST_LINKS⟩ := He.int_ok X G (c.t.d.fact 111 (f := .int "MOST_LINKS" 16) rfl)
  obtain ⟨t_PARITY_LETTERS, m_PARITY_LETTERS⟩ := He.str_ok X G (c.t.d.fact 112 (f := .str "PARITY_LETTERS" "abcdefgh") rfl)
  exact ⟨⟨He.fAd K ("BadNetwork", some "__init__"), fd_BadNetwork_init, He.fAd K ("Network", some "__init__"), fd_Network_init, (He.cT K ("Network", some "__init__")).1, (He.cT K ("Network", some "__init__")).2, He.fAd K ("Network", some "node_letters"), fd_Network_node_letters, He.fAd K ("Network", some "variable_letters"), fd_Network_variable_letters, He.fAd K ("Network", some "messages"), fd_Network_messages, He.fAd K ("Network", some "all_messages"), fd_Network_all_messages, He.fAd K ("is_message", none), fd_is_message, He.fAd K ("is_link", none), fd_is_link, He.fAd K ("node_number", none), fd_node_number, He.fAd K ("require_set", none), fd_require_set, He.fAd K ("has_link", none), fd_has_link, He.fAd K ("require_link", none), fd_require_link, He.fAd K ("require_message", none), fd_require_message, He.fAd K ("first_letters", none), fd_first_letters, He.fAd K ("is_ascending", none), fd_is_ascending, He.fAd K ("_check_variables", none), fd_check_variables, He.fAd K ("_check_nodes", none), fd_check_nodes, He.fAd K ("_check_links", none), fd_check_links, He.fAd K ("mask_of", none), fd_mask_of, He.fAd K ("remainder", none), fd_remainder, He.fAd K ("spanned", none), fd_spanned, (He.dflAt ("spanned", none) 0 K), He.fAd K ("first_masks", none), fd_first_masks, He.fAd K ("Margins", some "__init__"), fd_Margins_init, He.fAd K ("Margins", some "deficient"), fd_Margins_deficient, He.fAd K ("Margins", some "tight"), fd_Margins_tight, He.fAd K ("Margins", some "first_deficient"), fd_Margins_first_deficient, He.fAd K ("Margins", some "is_feasible"), fd_Margins_is_feasible, He.fAd K ("Margins", some "needed"), fd_Margins_needed, He.fAd K ("Margins", some "tolerance"), fd_Margins_tolerance, He.fAd K ("Margins", some "tolerance_after"), fd_Margins_tolerance_after, He.fAd K ("first_spans", none), fd_first_spans, He.fAd K ("margins_of", none), fd_margins_of, He.fAd K ("ordered_sets", none), fd_ordered_sets, He.fAd K ("enters", none), fd_enters, He.fAd K ("enters_any", none), fd_enters_any, He.fAd K ("entering", none), fd_entering, He.fAd K ("Sending", some "__init__"), fd_Sending_init, He.fAd K ("Sending", some "learn"), fd_Sending_learn, He.fAd K ("Sending", some "hindrance"), fd_Sending_hindrance, He.fAd K ("Sending", some "send"), fd_Sending_send, He.fAd K ("Sending", some "margins"), fd_Sending_margins, He.fAd K ("Sending", some "is_informed"), fd_Sending_is_informed, He.fAd K ("Sending", some "is_over"), fd_Sending_is_over, He.fAd K ("Sending", some "possible_ones"), fd_Sending_possible_ones, He.fAd K ("Sending", some "next_ones"), fd_Sending_next_ones, He.fAd K ("Sending", some "finish"), fd_Sending_finish, He.fAd K ("checked_transmissions", none), fd_checked_transmissions, He.fAd K ("sending_after", none), fd_sending_after, He.fAd K ("is_new_to_all", none), fd_is_new_to_all, He.fAd K ("first_set", none), fd_first_set, He.fAd K ("is_feasible_for", none), fd_is_feasible_for, He.fAd K ("feasible_alone", none), fd_feasible_alone, He.fAd K ("critical_links", none), fd_critical_links, He.fAd K ("delivery", none), fd_delivery, He.fAd K ("is_complete_for", none), fd_is_complete_for, He.fAd K ("_with_any", none), fd_with_any, He.fAd K ("_first_with", none), fd_first_with, He.fAd K ("_leading_to", none), fd_leading_to, He.fAd K ("_law_pool", none), fd_law_pool, He.fAd K ("_law_take", none), fd_law_take, He.fAd K ("_law_is_integer", none), fd_law_is_integer, He.fAd K ("_law_same", none), fd_law_same, He.fAd K ("_law_pick", none), fd_law_pick, He.fAd K ("_law_parity", none), fd_law_parity, He.fAd K ("_law_message", none), fd_law_message, He.fAd K ("_law_sum", none), fd_law_sum, He.fAd K ("_law_derived", none), fd_law_derived, He.fAd K ("_law_rank", none), fd_law_rank, He.fAd K ("_law_some_messages", none), fd_law_some_messages, He.fAd K ("_law_drawn", none), fd_law_drawn, He.fAd K ("_law_filled", none), fd_law_filled, He.fAd K ("_law_network", none), fd_law_network, He.fAd K ("_law_shaped", none), fd_law_shaped, He.fAd K ("_law_handed", none), fd_law_handed, He.fAd K ("_law_sets", none), fd_law_sets, He.fAd K ("_law_messages_of", none), fd_law_messages_of, He.fAd K ("_law_demand", none), fd_law_demand, He.fAd K ("_law_entering", none), fd_law_entering, He.fAd K ("_law_deficient", none), fd_law_deficient, He.fAd K ("_law_first_set", none), fd_law_first_set, He.fAd K ("_law_targets", none), fd_law_targets, He.fAd K ("_law_critical", none), fd_law_critical, He.fAd K ("_law_refused", none), fd_law_refused, He.fAd K ("law", none), fd_law, He.ga K "Network", He.ga K "Margins", He.ga K "Sending", He.ga K "KnowError", He.ga K "BadNetwork", He.ga K "NoNode", He.ga K "NoSet", t_VARIABLE_LETTERS, t_NODE_LETTERS, t_MOST_VARIABLES, t_MOST_NODES, t_MOST_MESSAGES, t_MOST_LINKS, t_PARITY_LETTERS⟩, ⟨F_BadNetwork_init,
    b_BadNetwork_init,
    He.eqO_ok (hx 0 rfl),
    of_decide_eq_true (hx 1 rfl),
    F_Network_init,
    b_Network_init,
    funC_of (p := ("Network", some "__init__")) FD_Network_init,
    He.mkr_ok (c.t.d.fact 0 (f := .mkr "Network") rfl),
    F_Network_node_letters,
    b_Network_node_letters,
    He.meth_ok (c.t.d.fact 1 (f := .meth "Network" "node_letters") rfl),
    F_Network_variable_letters,
    b_Network_variable_letters,
    He.meth_ok (c.t.d.fact 2 (f := .meth "Network" "variable_letters") rfl),
    F_Network_messages,
    b_Network_messages,
    He.meth_ok (c.t.d.fact 3 (f := .meth "Network" "messages") rfl),
    F_Network_all_messages,
    b_Network_all_messages,
    He.meth_ok (c.t.d.fact 4 (f := .meth "Network" "all_messages") rfl),
    F_is_message,
    b_is_message,
    He.glo_ok X G (c.t.d.fact 5 (f := .glo "is_message") rfl),
    F_is_link,
    b_is_link,
    He.glo_ok X G (c.t.d.fact 6 (f := .glo "is_link") rfl),
    F_node_number,
    b_node_number,
    He.glo_ok X G (c.t.d.fact 7 (f := .glo "node_number") rfl),
    F_require_set,
    b_require_set,
    He.glo_ok X G (c.t.d.fact 8 (f := .glo "require_set") rfl),
    F_has_link,
    b_has_link,
    He.glo_ok X G (c.t.d.fact 9 (f := .glo "has_link") rfl),
    F_require_link,
    b_require_link,
    He.glo_ok X G (c.t.d.fact 10 (f := .glo "require_link") rfl),
    F_require_message,
    b_require_message,
    He.glo_ok X G (c.t.d.fact 11 (f := .glo "require_message") rfl),
    F_first_letters,
    b_first_letters,
    He.glo_ok X G (c.t.d.fact 12 (f := .glo "first_letters") rfl),
    F_is_ascending,
    b_is_ascending,
    He.glo_ok X G (c.t.d.fact 13 (f := .glo "is_ascending") rfl),
    F_check_variables,
    b_check_variables,
    He.glo_ok X G (c.t.d.fact 14 (f := .glo "_check_variables") rfl),
    F_check_nodes,
    b_check_nodes,
    He.glo_ok X G (c.t.d.fact 15 (f := .glo "_check_nodes") rfl),
    F_check_links,
    b_check_links,
    He.glo_ok X G (c.t.d.fact 16 (f := .glo "_check_links") rfl),
    F_mask_of,
    b_mask_of,
    He.glo_ok X G (c.t.d.fact 17 (f := .glo "mask_of") rfl),
    F_remainder,
    b_remainder,
    He.glo_ok X G (c.t.d.fact 18 (f := .glo "remainder") rfl),
    FD_spanned,
    b_spanned,
    b1_spanned,
    tup0_ok (hx 2 rfl),
    (hx 3 rfl),
    He.glo_ok X G (c.t.d.fact 19 (f := .glo "spanned") rfl),
    F_first_masks,
    b_first_masks,
    He.glo_ok X G (c.t.d.fact 20 (f := .glo "first_masks") rfl),
    F_Margins_init,
    b_Margins_init,
    He.mkr_ok (c.t.d.fact 21 (f := .mkr "Margins") rfl),
    F_Margins_deficient,
    b_Margins_deficient,
    He.meth_ok (c.t.d.fact 22 (f := .meth "Margins" "deficient") rfl),
    F_Margins_tight,
    b_Margins_tight,
    He.meth_ok (c.t.d.fact 23 (f := .meth "Margins" "tight") rfl),
    F_Margins_first_deficient,
    b_Margins_first_deficient,
    He.meth_ok (c.t.d.fact 24 (f := .meth "Margins" "first_deficient") rfl),
    F_Margins_is_feasible,
    b_Margins_is_feasible,
    He.meth_ok (c.t.d.fact 25 (f := .meth "Margins" "is_feasible") rfl),
    F_Margins_needed,
    b_Margins_needed,
    He.meth_ok (c.t.d.fact 26 (f := .meth "Margins" "needed") rfl),
    F_Margins_tolerance,
    b_Margins_tolerance,
    He.meth_ok (c.t.d.fact 27 (f := .meth "Margins" "tolerance") rfl),
    F_Margins_tolerance_after,
    b_Margins_tolerance_after,
    He.meth_ok (c.t.d.fact 28 (f := .meth "Margins" "tolerance_after") rfl),
    F_first_spans,
    b_first_spans,
    He.glo_ok X G (c.t.d.fact 29 (f := .glo "first_spans") rfl),
    F_margins_of,
    b_margins_of,
    He.glo_ok X G (c.t.d.fact 30 (f := .glo "margins_of") rfl),
    F_ordered_sets,
    b_ordered_sets,
    He.glo_ok X G (c.t.d.fact 31 (f := .glo "ordered_sets") rfl),
    F_enters,
    b_enters,
    He.glo_ok X G (c.t.d.fact 32 (f := .glo "enters") rfl),
    F_enters_any,
    b_enters_any,
    He.glo_ok X G (c.t.d.fact 33 (f := .glo "enters_any") rfl),
    F_entering,
    b_entering,
    He.glo_ok X G (c.t.d.fact 34 (f := .glo "entering") rfl),
    F_Sending_init,
    b_Sending_init,
    He.mkr_ok (c.t.d.fact 35 (f := .mkr "Sending") rfl),
    F_Sending_learn,
    b_Sending_learn,
    He.meth_ok (c.t.d.fact 36 (f := .meth "Sending" "learn") rfl),
    F_Sending_hindrance,
    b_Sending_hindrance,
    He.meth_ok (c.t.d.fact 37 (f := .meth "Sending" "hindrance") rfl),
    F_Sending_send,
    b_Sending_send,
    He.meth_ok (c.t.d.fact 38 (f := .meth "Sending" "send") rfl),
    F_Sending_margins,
    b_Sending_margins,
    He.meth_ok (c.t.d.fact 39 (f := .meth "Sending" "margins") rfl),
    F_Sending_is_informed,
    b_Sending_is_informed,
    He.meth_ok (c.t.d.fact 40 (f := .meth "Sending" "is_informed") rfl),
    F_Sending_is_over,
    b_Sending_is_over,
    He.meth_ok (c.t.d.fact 41 (f := .meth "Sending" "is_over") rfl),
    F_Sending_possible_ones,
    b_Sending_possible_ones,
    He.meth_ok (c.t.d.fact 42 (f := .meth "Sending" "possible_ones") rfl),
    F_Sending_next_ones,
    b_Sending_next_ones,
    He.meth_ok (c.t.d.fact 43 (f := .meth "Sending" "next_ones") rfl),
    F_Sending_finish,
    b_Sending_finish,
    He.meth_ok (c.t.d.fact 44 (f := .meth "Sending" "finish") rfl),
    F_checked_transmissions,
    b_checked_transmissions,
    He.glo_ok X G (c.t.d.fact 45 (f := .glo "checked_transmissions") rfl),
    F_sending_after,
    b_sending_after,
    He.glo_ok X G (c.t.d.fact 46 (f := .glo "sending_after") rfl),
    F_is_new_to_all,
    b_is_new_to_all,
    He.glo_ok X G (c.t.d.fact 47 (f := .glo "is_new_to_all") rfl),
    F_first_set,
    b_first_set,
    He.glo_ok X G (c.t.d.fact 48 (f := .glo "first_set") rfl),
    F_is_feasible_for,
    b_is_feasible_for,
    He.glo_ok X G (c.t.d.fact 49 (f := .glo "is_feasible_for") rfl),
    F_feasible_alone,
    b_feasible_alone,
    He.glo_ok X G (c.t.d.fact 50 (f := .glo "feasible_alone") rfl),
    F_critical_links,
    b_critical_links,
    He.glo_ok X G (c.t.d.fact 51 (f := .glo "critical_links") rfl),
    F_delivery,
    b_delivery,
    He.glo_ok X G (c.t.d.fact 52 (f := .glo "delivery") rfl),
    F_is_complete_for,
    b_is_complete_for,
    He.glo_ok X G (c.t.d.fact 53 (f := .glo "is_complete_for") rfl),
    F_with_any,
    b_with_any,
    He.glo_ok X G (c.t.d.fact 54 (f := .glo "_with_any") rfl),
    F_first_with,
    b_first_with,
    He.glo_ok X G (c.t.d.fact 55 (f := .glo "_first_with") rfl),
    F_leading_to,
    b_leading_to,
    He.glo_ok X G (c.t.d.fact 56 (f := .glo "_leading_to") rfl),
    F_law_pool,
    b_law_pool,
    He.glo_ok X G (c.t.d.fact 57 (f := .glo "_law_pool") rfl),
    F_law_take,
    b_law_take,
    He.glo_ok X G (c.t.d.fact 58 (f := .glo "_law_take") rfl),
    F_law_is_integer,
    b_law_is_integer,
    He.glo_ok X G (c.t.d.fact 59 (f := .glo "_law_is_integer") rfl),
    F_law_same,
    b_law_same,
    He.glo_ok X G (c.t.d.fact 60 (f := .glo "_law_same") rfl),
    F_law_pick,
    b_law_pick,
    He.glo_ok X G (c.t.d.fact 61 (f := .glo "_law_pick") rfl),
    F_law_parity,
    b_law_parity,
    He.glo_ok X G (c.t.d.fact 62 (f := .glo "_law_parity") rfl),
    F_law_message,
    b_law_message,
    He.glo_ok X G (c.t.d.fact 63 (f := .glo "_law_message") rfl),
    F_law_sum,
    b_law_sum,
    He.glo_ok X G (c.t.d.fact 64 (f := .glo "_law_sum") rfl),
    F_law_derived,
    b_law_derived,
    He.glo_ok X G (c.t.d.fact 65 (f := .glo "_law_derived") rfl),
    F_law_rank,
    b_law_rank,
    He.glo_ok X G (c.t.d.fact 66 (f := .glo "_law_rank") rfl),
    F_law_some_messages,
    b_law_some_messages,
    He.glo_ok X G (c.t.d.fact 67 (f := .glo "_law_some_messages") rfl),
    F_law_drawn,
    b_law_drawn,
    He.glo_ok X G (c.t.d.fact 68 (f := .glo "_law_drawn") rfl),
    F_law_filled,
    b_law_filled,
    He.glo_ok X G (c.t.d.fact 69 (f := .glo "_law_filled") rfl),
    F_law_network,
    b_law_network,
    He.glo_ok X G (c.t.d.fact 70 (f := .glo "_law_network") rfl),
    F_law_shaped,
    b_law_shaped,
    He.glo_ok X G (c.t.d.fact 71 (f := .glo "_law_shaped") rfl),
    F_law_handed,
    b_law_handed,
    He.glo_ok X G (c.t.d.fact 72 (f := .glo "_law_handed") rfl),
    F_law_sets,
    b_law_sets,
    He.glo_ok X G (c.t.d.fact 73 (f := .glo "_law_sets") rfl),
    F_law_messages_of,
    b_law_messages_of,
    He.glo_ok X G (c.t.d.fact 74 (f := .glo "_law_messages_of") rfl),
    F_law_demand,
    b_law_demand,
    He.glo_ok X G (c.t.d.fact 75 (f := .glo "_law_demand") rfl),
    F_law_entering,
    b_law_entering,
    He.glo_ok X G (c.t.d.fact 76 (f := .glo "_law_entering") rfl),
    F_law_deficient,
    b_law_deficient,
    He.glo_ok X G (c.t.d.fact 77 (f := .glo "_law_deficient") rfl),
    F_law_first_set,
    b_law_first_set,
    He.glo_ok X G (c.t.d.fact 78 (f := .glo "_law_first_set") rfl),
    F_law_targets,
    b_law_targets,
    He.glo_ok X G (c.t.d.fact 79 (f := .glo "_law_targets") rfl),
    F_law_critical,
    b_law_critical,
    He.glo_ok X G (c.t.d.fact 80 (f := .glo "_law_critical") rfl),
    F_law_refused,
    b_law_refused,
    He.glo_ok X G (c.t.d.fact 81 (f := .glo "_law_refused") rfl),
    F_law,
    b_law,
    fun s u => B_law s [u] rfl,
    He.glo_ok X G (c.t.d.fact 82 (f := .glo "law") rfl),
    He.cls_ok (c.t.d.fact 83 (f := .cls "Network") rfl),
    He.glo_ok X G (c.t.d.fact 84 (f := .glo "Network") rfl),
    He.noat_ok (c.t.d.fact 85 (f := .noat "Network" "variables") rfl),
    He.noat_ok (c.t.d.fact 86 (f := .noat "Network" "nodes") rfl),
    He.noat_ok (c.t.d.fact 87 (f := .noat "Network" "links") rfl),
    He.cls_ok (c.t.d.fact 88 (f := .cls "Margins") rfl),
    He.glo_ok X G (c.t.d.fact 89 (f := .glo "Margins") rfl),
    He.noat_ok (c.t.d.fact 90 (f := .noat "Margins" "letters") rfl),
    He.noat_ok (c.t.d.fact 91 (f := .noat "Margins" "spans") rfl),
    He.noat_ok (c.t.d.fact 92 (f := .noat "Margins" "demands") rfl),
    He.noat_ok (c.t.d.fact 93 (f := .noat "Margins" "beyond") rfl),
    He.cls_ok (c.t.d.fact 94 (f := .cls "Sending") rfl),
    He.glo_ok X G (c.t.d.fact 95 (f := .glo "Sending") rfl),
    He.noat_ok (c.t.d.fact 96 (f := .noat "Sending" "free") rfl),
    He.noat_ok (c.t.d.fact 97 (f := .noat "Sending" "masks") rfl),
    He.noat_ok (c.t.d.fact 98 (f := .noat "Sending" "had") rfl),
    He.noat_ok (c.t.d.fact 99 (f := .noat "Sending" "spans") rfl),
    He.glo_ok X G (c.t.d.fact 100 (f := .glo "KnowError") rfl),
    He.glo_ok X G (c.t.d.fact 101 (f := .glo "BadNetwork") rfl),
    (excB_ok (hx 4 rfl)),
    of_decide_eq_true (hx 5 rfl),
    of_decide_eq_true (hx 6 rfl),
    oexB_ok (hx 7 rfl) (excB_ok (hx 4 rfl)),
    He.eqO_ok (hx 8 rfl),
    He.eqO_ok (hx 9 rfl),
    He.eqO_ok (hx 10 rfl),
    He.glo_ok X G (c.t.d.fact 102 (f := .glo "NoNode") rfl),
    (excB_ok (hx 11 rfl)),
    of_decide_eq_true (hx 12 rfl),
    (He.exc_ok (c.t.d.fact 103 (f := .exc "NoNode") rfl)).1,
    He.glo_ok X G (c.t.d.fact 104 (f := .glo "NoSet") rfl),
    (excB_ok (hx 13 rfl)),
    of_decide_eq_true (hx 14 rfl),
    of_decide_eq_true (hx 15 rfl),
    (He.exc_ok (c.t.d.fact 105 (f := .exc "NoSet") rfl)).1,
    m_VARIABLE_LETTERS,
    m_NODE_LETTERS,
    m_MOST_VARIABLES,
    m_MOST_NODES,
    m_MOST_MESSAGES,
    m_MOST_LINKS,
    m_PARITY_LETTERS,
    PySem.W.mg_of X G (He.eqO_ok (hx 16 rfl)),
    He.free_ok X G (c.t.d.fact 113 (f := .free "len") rfl),
    He.free_ok X G (c.t.d.fact 114 (f := .free "int") rfl),
    He.free_ok X G (c.t.d.fact 115 (f := .free "max") rfl),
    He.free_ok X G (c.t.d.fact 116 (f := .free "min") rfl),
    He.free_ok X G (c.t.d.fact 117 (f := .free "sum") rfl),
    He.free_ok X G (c.t.d.fact 118 (f := .free "sorted") rfl),
    He.free_ok X G (c.t.d.fact 119 (f := .free "range") rfl),
    He.free_ok X G (c.t.d.fact 120 (f := .free "tuple") rfl),
    He.free_ok X G (c.t.d.fact 121 (f := .free "list") rfl),
    He.free_ok X G (c.t.d.fact 122 (f := .free "isinstance") rfl),
    He.free_ok X G (c.t.d.fact 123 (f := .free "enumerate") rfl),
    He.free_ok X G (c.t.d.fact 124 (f := .free "all") rfl),
    He.free_ok X G (c.t.d.fact 125 (f := .free "bool") rfl),
    He.free_ok X G (c.t.d.fact 126 (f := .free "str") rfl),
    He.free_ok X G (c.t.d.fact 127 (f := .free "ValueError") rfl),
    He.free_ok X G (c.t.d.fact 128 (f := .free "dict") rfl),
    He.free_ok X G (c.t.d.fact 129 (f := .free "any") rfl)⟩, rfl, rfl, rfl⟩
theorem law_atX {l : PySem.W.OpenLaw} {w : World} {K : PySem.W.Frag} {h : Heap} {mg : Str → Option Value} {fa : Addr} (X : K.In h) (G : h.Ns mainGlobals mg) (hmg : mg "law" = some (.ref fa)) (c : He.SaysX faL fnL [] tfL exB w h K) :
    LamX.LawAtS l w K CX0 13 63 "script" mg fa h := by
  obtain ⟨a, T, ea, e1_Network_init, e2_Network_init⟩ := txt_of X G c
  have e : He.ga K "law" = fa := by
    have z := He.glo_ok X G (c.t.d.fact 82 (f := .glo "law") rfl)
    rw [hmg] at z
    cases z
    rfl
  refine law_at X T (ea.trans e) ?_ ?_ ?_
  · rw [e1_Network_init, e2_Network_init]
    exact c.hd ("Network", some "__init__") (by unfold tfL tfL1 tfL2; simp)
  · rw [e2_Network_init]
    exact c.empty ("Network", some "__init__") (by unfold tfL tfL1 tfL2; simp)
  · rw [e2_Network_init]
    exact c.out ("Network", some "__init__") (by unfold tfL tfL1 tfL2; simp)
end AK
open PySem PySem.W PySem.Calls PyProof.Rows
set_option maxRecDepth 100000 in
set_option maxHeartbeats 0 in
theorem PySem.Challenge.cw_allknow_k36_targets_holds : PySem.Challenge.rw_allknow_k36_targets.Holds := by
  w_on; o_law
  refine HandSHeadRun.head_imp (r := OpenLaw.row PySem.Challenge.rw_allknow_k36_targets) (q := view (OpenLaw.row PySem.Challenge.rw_allknow_k36_targets).prog [0, 85]) (H := AK.hkX) (ob := AK.obX) (M := 6000) (loose := AK.looseL) (d := HandSHeadRun.topDef (OpenLaw.row PySem.Challenge.rw_allknow_k36_targets).prog 85) (kwd := []) AK.obX_eq
    AK.runX (by kernel_rfl) (by kernel_rfl) (by kernel_rfl) (by rfl) (by first | assumption | decide +kernel) (by decide +kernel) ⟨rfl, rfl, rfl, rfl, rfl, by decide +kernel⟩ ?hw ?hc
  case hw => w_witness2
  case hc =>
    refine LamX.walk_ofTsE (l := PySem.Challenge.rw_allknow_k36_targets) (n := 63) (k := 13) (x := "script") (CX := fun _ => L2.CX0) rfl (by decide) (by kernel_rfl) ⟨rfl, by decide, by decide⟩ ?F (fun _ _ _ _ _ z => z)
    intro w mg fa h Y G hmg0
    obtain ⟨K, KX, c⟩ := Y
    have hmg : mg ("law" : PySem.Str) = some (.ref fa) := by
      have e : (HandSHeadRun.topDef (OpenLaw.row PySem.Challenge.rw_allknow_k36_targets).prog 85).name = ("law" : PySem.Str) := by kernel_rfl
      rw [← e]
      exact hmg0
    exact ⟨K, KX, AK.law_atX KX G hmg c⟩
