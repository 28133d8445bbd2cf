import PyProof.Rows.All
import HandS.Head3
import HandS.HeadHook4
import PySem.Challenge.RW_allknow_k04_what_can_be_derived
import Wide.All
import OpenK.AllK
import Wide.FinOn
import HandS.ForMost
import HandS.ForExc
import HandS.IsInst
import HandS.ExcIs
import HandS.ExcField
import HandS.ExcInit
import HandS.FStr
import HandS.StrMore
import HandS.Evl
import HandS.EndTab
import HandS.AnyAll
import HandS.JoinGen
import HandS.GenList
import HandS.RaiseMore
import PyProof.TupleOfGen
import KE.GoesMore
import PyProof.EnumMake
import HandS.CallSlots
import HandS.WordsExc
import KE.KExcIs
import HandS.Head0
import HandS.Head1
import HandS.Head2
import HandS.HeadEnd
import HandS.HeadHook1
import HandS.HeadHook2
import HandS.HeadHook3
import HandS.HeadWalk
import PyProof.Rows.SortShellAny
import HandS.Defaults
import HandS.TupLe
import HandS.Text
import HandS.Zip
import HandS.Zip0
import HandS.SetFor
import HandS.Strs
import PyProof.ListNew
import KE.DataMinMax
import KE.SortData
import KE.SortLaws
import HandS.DictComp
import PyProof.StrLoop
import HandS.NoneIn
import KE.KDictKeyed
import KE.GoesComp
import HandS.Exc
import HandS.Comp
import HandS.SetKeys
import HandS.Conv
import HandS.Deep
import HandS.TryOnly
set_option Elab.async false
set_option linter.all false
set_option maxRecDepth 100000
namespace AK
open PySem PySem.Spec PyProof.Rows L2
structure ExcA (K : PySem.W.Frag) (C : Addr) : Prop where
  ga : PySem.W.findIn K (.ref C) "__getattribute__" = some (some (.builtin "BaseException.__getattribute__"))
  gg : PySem.W.findIn K (.ref C) "__getattr__" = some none
  ex : PySem.W.subIn K (.ref C) (.type "BaseException") = some true
  hd : PySem.W.hasDictIn K C = true
  hc : PySem.W.findIn K (.ref C) "__class__" = some (some (.builtin "object.__class__"))
  hn : PySem.W.specialIn K (.builtin "object.__class__") "__get__" = some (some (.builtin "getset_descriptor.__get__"))
  ht : PySem.W.takesIn K (.builtin "object.__class__") = some true
  hm : PySem.W.mroIn K C (.type "object") = some true
  ty : PySem.W.typeIn K (.ref C) = some (.type "type")
  kp : PySem.W.keepIn K (.ref C) = true
  su : PySem.W.subIn K (.ref C) (.ref C) = some true
end AK
namespace AK
open PySem PySem.Spec PyProof.Rows L2
structure FunC (K : PySem.W.Frag) (x qual : Str) (st : Stmt) (f : Addr) (fd : FuncData) (c : Addr) : Prop where
  ex : ∃ (oc : Value) (od : Option Addr) (kV doc pm : Value) (an : Option Addr) (ct : Value) (osl : Array (Option Value)),
    fd = PySem.W.fnOf x qual (defArgs st) (defBody st) (defScope st) .none kV doc pm an (.ref c) ct ∧ K.lookup f = some ⟨oc, od, .func fd, osl⟩ ∧ PySem.W.codeIn K (.ref c) qual = true
end AK
namespace AK
open PySem PySem.Spec PyProof.Rows L2
def excB (K : PySem.W.Frag) (C : Addr) : Bool :=
  He.eqO (PySem.W.findIn K (.ref C) "__getattribute__") (some (some (.builtin "BaseException.__getattribute__"))) && (He.eqO (PySem.W.findIn K (.ref C) "__getattr__") (some none) && (decide (PySem.W.subIn K (.ref C) (.type "BaseException") = some true) && (PySem.W.hasDictIn K C &&
  (He.eqO (PySem.W.findIn K (.ref C) "__class__") (some (some (.builtin "object.__class__"))) && (He.eqO (PySem.W.specialIn K (.builtin "object.__class__") "__get__") (some (some (.builtin "getset_descriptor.__get__"))) && (decide (PySem.W.takesIn K (.builtin "object.__class__") = some true) &&
  (decide (PySem.W.mroIn K C (.type "object") = some true) && (decide (PySem.W.typeIn K (.ref C) = some (.type "type")) && (PySem.W.keepIn K (.ref C) && decide (PySem.W.subIn K (.ref C) (.ref C) = some true))))))))))
end AK
namespace AK
open PySem PySem.Spec PyProof.Rows L2
def ownB (C : Addr) : Obj → Bool
  | ⟨.type t, _, .cls cd, sl⟩ => decide (t = "type") && (match cd.mro, sl.toList with
    | .ref D :: bm, [_, _, _, _, some (.builtin n), _] => decide (D = C) && (decide (n = "ValueError.__new__") && (!cd.hasDel && (cd.hasDict && PySem.HandSPX.refsVE bm)))
    | _, _ => false)
  | _ => false
end AK
namespace AK
open PySem PySem.Spec PyProof.Rows L2
def oexB (K : PySem.W.Frag) (C : Addr) : Bool := (match K.lookup C with
  | some o => ownB C o
  | none => false) && He.eqO (PySem.W.findIn K (.ref C) "__setattr__") (some (some (.builtin "object.__setattr__")))
end AK
namespace AK
open PySem PySem.Spec PyProof.Rows L2
def tup0B (K : PySem.W.Frag) (t : Addr) : Bool := match K.lookup t with
  | some ⟨.type c, _, .seq its _, _⟩ => decide (c = "tuple") && decide (its = #[])
  | _ => false
end AK
set_option Elab.async false
set_option linter.all false
set_option maxRecDepth 100000
namespace AK
open PySem PySem.Spec PyProof.Rows L2
/-! ### a head whose observation is cut in pieces: the objects are taken by their numbers, nothing is gone after -/
/-- the objects below m -/
def lowK (m : Nat) (g : Addr → Option Obj) : PySem.W.Frag := He.frT g (List.range m)
/-- one piece of what is asked -/
def pieceO (m : Nat) (fa : List He.Fa) (fn : List He.DefD) (tf : List He.Defn) (ex : PySem.W.Frag → Bool) (g : Addr → Option Obj) : He.AlX := (He.obsT fa fn [] (lowK m g), ex (lowK m g) && He.tabsB g tf (lowK m g))
theorem piece_says {m : Nat} {fa : List He.Fa} {fn : List He.DefD} {tf : List He.Defn} {ex : PySem.W.Frag → Bool} {w : World} {h : Heap} (e : pieceO m fa fn tf ex h.get? = He.valX fn [] w) : He.SaysX fa fn [] tf ex w h (lowK m h.get?) := by
  have first := congrArg Prod.fst e
  have second : (ex (lowK m h.get?) && He.tabsB h.get? tf (lowK m h.get?)) = true := congrArg Prod.snd e
  rw [Bool.and_eq_true] at second
  have each : ∀ p ∈ tf, PySem.W.codeHdIn (lowK m h.get?) (He.cT (lowK m h.get?) p).1 (He.cT (lowK m h.get?) p).2 = true ∧ ∃ u, h.get? (He.cT (lowK m h.get?) p).2 = some u ∧ He.emptyTab u = true := by
    intro p hp
    have z := List.all_eq_true.mp second.2 p hp
    rw [Bool.and_eq_true] at z
    refine ⟨z.1, ?_⟩
    have y := z.2
    generalize h.get? (He.cT (lowK m h.get?) p).2 = r at y
    match r, y with
    | some u, y => exact ⟨u, rfl, y⟩
  refine ⟨first, second.1, fun p hp => (each p hp).1, fun p hp => ?_, fun p hp => ?_⟩
  · obtain ⟨u, a1, a2⟩ := (each p hp).2
    exact He.frT_none a1 a2
  · obtain ⟨u, a1, a2⟩ := (each p hp).2
    rw [a1, He.emptyTab_eq a2]
def hookP (m : Nat) (fa : List He.Fa) (fn : List He.DefD) (tf : List He.Defn) (ex : PySem.W.Frag → Bool) : PySem.W.Hook where
  α := He.AlX
  obs s := pieceO m fa fn tf ex s.heap.get?
  val w := He.valX fn [] w
  says w h := ∃ K : PySem.W.Frag, K.In h ∧ He.SaysX fa fn [] tf ex w h K
  of _ _ e := ⟨_, He.frT_in, piece_says e⟩
  keeps _ _ _ := fun ⟨K, a1, c⟩ k => ⟨K, a1.keeps k, c.t, c.more, c.hd, c.out, fun p hp => k _ _ (c.empty p hp)⟩
theorem pieceO_eq {m : Nat} {fa : List He.Fa} {fn : List He.DefD} {tf : List He.Defn} {ex : PySem.W.Frag → Bool} (s : PySem.W.SharedT) : pieceO m fa fn tf ex (HandSHeadRun.getT s) = (hookP m fa fn tf ex).obs s.abs := by
  show pieceO m fa fn tf ex (HandSHeadRun.getT s) = pieceO m fa fn tf ex s.abs.heap.get?
  rw [show HandSHeadRun.getT s = s.abs.heap.get? from funext (HandSHeadRun.getT_eq s)]
/-- two pieces are one -/
theorem piece_join {m : Nat} {fa1 fa2 : List He.Fa} {fn1 fn2 : List He.DefD} {tf1 tf2 : List He.Defn} {l1 l2 : PySem.W.Frag → List Bool} {g : Addr → Option Obj} {w : World} (h1 : pieceO m fa1 fn1 tf1 (fun K => (l1 K).all id) g = He.valX fn1 [] w) (h2 : pieceO m fa2 fn2 tf2 (fun K => (l2 K).all id) g = He.valX fn2 [] w) :
    pieceO m (fa1 ++ fa2) (fn1 ++ fn2) (tf1 ++ tf2) (fun K => (l1 K ++ l2 K).all id) g = He.valX (fn1 ++ fn2) [] w := by
  have a1 : (fa1.all (fun f => f.ok (lowK m g)) && fn1.all fun d => d.ok (lowK m g)) = true := congrArg (fun z : He.AlX => z.1.1.1) h1
  have a2 : (fa2.all (fun f => f.ok (lowK m g)) && fn2.all fun d => d.ok (lowK m g)) = true := congrArg (fun z : He.AlX => z.1.1.1) h2
  have b1 : (fn1.map fun d => He.fnW (lowK m g) d.at_) = fn1.map He.DefD.val := congrArg (fun z : He.AlX => z.1.1.2) h1
  have b2 : (fn2.map fun d => He.fnW (lowK m g) d.at_) = fn2.map He.DefD.val := congrArg (fun z : He.AlX => z.1.1.2) h2
  have c1 : ((l1 (lowK m g)).all id && He.tabsB g tf1 (lowK m g)) = true := congrArg (fun z : He.AlX => z.2) h1
  have c2 : ((l2 (lowK m g)).all id && He.tabsB g tf2 (lowK m g)) = true := congrArg (fun z : He.AlX => z.2) h2
  rw [Bool.and_eq_true] at a1 a2 c1 c2
  have t : He.tabsB g (tf1 ++ tf2) (lowK m g) = true := by
    have t1 := c1.2
    have t2 := c2.2
    unfold He.tabsB at t1 t2 ⊢
    rw [List.all_append, t1, t2]
    rfl
  refine Prod.ext (Prod.ext (Prod.ext ?_ ?_) rfl) ?_
  · show ((fa1 ++ fa2).all (fun f => f.ok (lowK m g)) && (fn1 ++ fn2).all fun d => d.ok (lowK m g)) = true
    rw [List.all_append, List.all_append, a1.1, a1.2, a2.1, a2.2]
    rfl
  · show ((fn1 ++ fn2).map fun d => He.fnW (lowK m g) d.at_) = (fn1 ++ fn2).map He.DefD.val
    rw [List.map_append, List.map_append, b1, b2]
  · show ((l1 (lowK m g) ++ l2 (lowK m g)).all id && He.tabsB g (tf1 ++ tf2) (lowK m g)) = true
    rw [List.all_append, c1.1, c2.1, t]
    rfl
theorem map_three {α β γ δ : Type} {o : Option α} {f : α → β} {g : α → γ} {k : α → δ} {a : β} {b : γ} {c : δ} (h1 : o.map f = some a) (h2 : o.map g = some b) (h3 : o.map k = some c) : o.map (fun x => (f x, g x, k x)) = some (a, b, c) := by
  match o, h1, h2, h3 with
  | some x, h1, h2, h3 =>
    cases h1
    cases h2
    cases h3
    rfl
theorem map_join {α : Type} {o : Option α} {m : Nat} {fa1 fa2 : List He.Fa} {fn1 fn2 : List He.DefD} {tf1 tf2 : List He.Defn} {l1 l2 : PySem.W.Frag → List Bool} {G : α → Addr → Option Obj} {w : World} (h1 : o.map (fun x => pieceO m fa1 fn1 tf1 (fun K => (l1 K).all id) (G x)) = some (He.valX fn1 [] w)) (h2 : o.map (fun x => pieceO m fa2 fn2 tf2 (fun K => (l2 K).all id) (G x)) = some (He.valX fn2 [] w)) :
    o.map (fun x => pieceO m (fa1 ++ fa2) (fn1 ++ fn2) (tf1 ++ tf2) (fun K => (l1 K ++ l2 K).all id) (G x)) = some (He.valX (fn1 ++ fn2) [] w) := by
  match o, h1, h2 with
  | some x, h1, h2 => exact congrArg some (piece_join (Option.some.inj h1) (Option.some.inj h2))
end AK
set_option Elab.async false
set_option linter.all false
set_option maxRecDepth 100000
set_option maxHeartbeats 8000000
namespace AK
open PySem PySem.Spec PyProof.Rows L2
def topS (i : Nat) : Stmt := PySem.Challenge.pw_allknow_k04_what_can_be_derived.main.body.getD i (.Pass ⟨0, 0, 0, 0⟩)
abbrev s_first_letters : Stmt := topS 3
abbrev sc_first_letters_N : List Str := ["letters", "count"]
theorem sc_first_letters : FnScope sc_first_letters_N ["letters", "count"] (defScope s_first_letters) := ⟨rfl, rfl, rfl, by decide +kernel, rfl, by decide +kernel, by decide +kernel⟩
abbrev s_is_ascending : Stmt := topS 4
abbrev sc_is_ascending_N : List Str := ["letters", "text", "behind", "letter"]
theorem sc_is_ascending : FnScope sc_is_ascending_N ["letters", "text"] (defScope s_is_ascending) := ⟨rfl, rfl, rfl, by decide +kernel, rfl, by decide +kernel, by decide +kernel⟩
abbrev s_is_parity : Stmt := topS 7
abbrev sc_is_parity_N : List Str := ["text"]
theorem sc_is_parity : FnScope sc_is_parity_N ["text"] (defScope s_is_parity) := ⟨rfl, rfl, rfl, by decide +kernel, rfl, by decide +kernel, by decide +kernel⟩
abbrev s_mask_of : Stmt := topS 8
abbrev sc_mask_of_N : List Str := ["parity", "letter"]
theorem sc_mask_of : FnScope sc_mask_of_N ["parity"] (defScope s_mask_of) := ⟨rfl, rfl, rfl, by decide +kernel, rfl, by decide +kernel, by decide +kernel⟩
abbrev s_text_of : Stmt := topS 9
abbrev sc_text_of_N : List Str := ["mask", "at", "letter"]
theorem sc_text_of : FnScope sc_text_of_N ["mask"] (defScope s_text_of) := ⟨rfl, rfl, rfl, by decide +kernel, rfl, by decide +kernel, by decide +kernel⟩
abbrev s_is_odd : Stmt := topS 10
abbrev sc_is_odd_N : List Str := ["mask", "assignment", "common", "odd"]
theorem sc_is_odd : FnScope sc_is_odd_N ["mask", "assignment"] (defScope s_is_odd) := ⟨rfl, rfl, rfl, by decide +kernel, rfl, by decide +kernel, by decide +kernel⟩
abbrev s_remainder : Stmt := topS 11
abbrev sc_remainder_N : List Str := ["span", "mask", "row"]
theorem sc_remainder : FnScope sc_remainder_N ["span", "mask"] (defScope s_remainder) := ⟨rfl, rfl, rfl, by decide +kernel, rfl, by decide +kernel, by decide +kernel⟩
abbrev s_spanned : Stmt := topS 12
abbrev sc_spanned_N : List Str := ["masks", "span", "rows", "mask", "rest"]
theorem sc_spanned : FnScope sc_spanned_N ["masks", "span"] (defScope s_spanned) := ⟨rfl, rfl, rfl, by decide +kernel, rfl, by decide +kernel, by decide +kernel⟩
abbrev s_basis_indices : Stmt := topS 13
abbrev sc_basis_indices_N : List Str := ["masks", "span", "indices", "index", "mask", "rest"]
theorem sc_basis_indices : FnScope sc_basis_indices_N ["masks"] (defScope s_basis_indices) := ⟨rfl, rfl, rfl, by decide +kernel, rfl, by decide +kernel, by decide +kernel⟩
abbrev s_BadParity_init : Stmt := inClass (topS 15) 0
abbrev sc_BadParity_init_N : List Str := ["self", "text"]
theorem sc_BadParity_init : FnScope sc_BadParity_init_N ["self", "text"] (defScope s_BadParity_init) := ⟨rfl, rfl, rfl, by decide +kernel, rfl, by decide +kernel, by decide +kernel⟩
abbrev s_message_rank : Stmt := topS 16
abbrev sc_message_rank_N : List Str := ["messages"]
theorem sc_message_rank : FnScope sc_message_rank_N ["messages"] (defScope s_message_rank) := ⟨rfl, rfl, rfl, by decide +kernel, rfl, by decide +kernel, by decide +kernel⟩
abbrev s_is_derived : Stmt := topS 17
abbrev sc_is_derived_N : List Str := ["messages", "parity", "span"]
theorem sc_is_derived : FnScope sc_is_derived_N ["messages", "parity"] (defScope s_is_derived) := ⟨rfl, rfl, rfl, by decide +kernel, rfl, by decide +kernel, by decide +kernel⟩
abbrev s_basis : Stmt := topS 18
abbrev sc_basis_N : List Str := ["messages"]
theorem sc_basis : FnScope sc_basis_N ["messages"] (defScope s_basis) := ⟨rfl, rfl, rfl, by decide +kernel, rfl, by decide +kernel, by decide +kernel⟩
abbrev s_combination : Stmt := topS 19
abbrev sc_combination_N : List Str := ["messages", "parity", "masks", "rest", "fewest", "indices", "index", "mask"]
theorem sc_combination : FnScope sc_combination_N ["messages", "parity"] (defScope s_combination) := ⟨rfl, rfl, rfl, by decide +kernel, rfl, by decide +kernel, by decide +kernel⟩
abbrev s_separating : Stmt := topS 20
abbrev sc_separating_N : List Str := ["variables", "messages", "parity", "span", "mask", "assignment", "row"]
theorem sc_separating : FnScope sc_separating_N ["variables", "messages", "parity"] (defScope s_separating) := ⟨rfl, rfl, rfl, by decide +kernel, rfl, by decide +kernel, by decide +kernel⟩
abbrev s_redundant : Stmt := topS 21
abbrev sc_redundant_N : List Str := ["messages", "masks", "needed", "index"]
theorem sc_redundant : FnScope sc_redundant_N ["messages"] (defScope s_redundant) := ⟨rfl, rfl, rfl, by decide +kernel, rfl, by decide +kernel, by decide +kernel⟩
abbrev s_is_equivalent : Stmt := topS 22
abbrev sc_is_equivalent_N : List Str := ["first", "second", "first_span", "second_span", "both"]
theorem sc_is_equivalent : FnScope sc_is_equivalent_N ["first", "second"] (defScope s_is_equivalent) := ⟨rfl, rfl, rfl, by decide +kernel, rfl, by decide +kernel, by decide +kernel⟩
abbrev s_odd_ones : Stmt := topS 23
abbrev sc_odd_ones_N : List Str := ["messages", "assignment", "masks", "ones", "mask"]
theorem sc_odd_ones : FnScope sc_odd_ones_N ["messages", "assignment"] (defScope s_odd_ones) := ⟨rfl, rfl, rfl, by decide +kernel, rfl, by decide +kernel, by decide +kernel⟩
abbrev s_assignments : Stmt := topS 24
abbrev sc_assignments_N : List Str := ["variables", "messages", "told", "wanted", "mask", "value", "good"]
theorem sc_assignments : FnScope sc_assignments_N ["variables", "messages", "told"] (defScope s_assignments) := ⟨rfl, rfl, rfl, by decide +kernel, rfl, by decide +kernel, by decide +kernel⟩
abbrev s_parity_mask : Stmt := topS 25
abbrev sc_parity_mask_N : List Str := ["text"]
theorem sc_parity_mask : FnScope sc_parity_mask_N ["text"] (defScope s_parity_mask) := ⟨rfl, rfl, rfl, by decide +kernel, rfl, by decide +kernel, by decide +kernel⟩
abbrev s_message_masks : Stmt := topS 26
abbrev sc_message_masks_N : List Str := ["messages", "text"]
theorem sc_message_masks : FnScope sc_message_masks_N ["messages"] (defScope s_message_masks) := ⟨rfl, rfl, rfl, by decide +kernel, rfl, by decide +kernel, by decide +kernel⟩
abbrev s_assignment_masks : Stmt := topS 27
abbrev sc_assignment_masks_N : List Str := ["variables"]
theorem sc_assignment_masks : FnScope sc_assignment_masks_N ["variables"] (defScope s_assignment_masks) := ⟨rfl, rfl, rfl, by decide +kernel, rfl, by decide +kernel, by decide +kernel⟩
abbrev s_gives : Stmt := topS 28
abbrev sc_gives_N : List Str := ["assignment", "wanted", "mask", "value"]
theorem sc_gives : FnScope sc_gives_N ["assignment", "wanted"] (defScope s_gives) := ⟨rfl, rfl, rfl, by decide +kernel, rfl, by decide +kernel, by decide +kernel⟩
abbrev s_is_derived_from_others : Stmt := topS 29
abbrev sc_is_derived_from_others_N : List Str := ["masks", "index", "others"]
theorem sc_is_derived_from_others : FnScope sc_is_derived_from_others_N ["masks", "index"] (defScope s_is_derived_from_others) := ⟨rfl, rfl, rfl, by decide +kernel, rfl, by decide +kernel, by decide +kernel⟩
abbrev s_fewest_messages : Stmt := topS 30
abbrev sc_fewest_messages_N : List Str := ["masks", "different", "fewest", "reached", "further", "start", "mask"]
theorem sc_fewest_messages : FnScope sc_fewest_messages_N ["masks"] (defScope s_fewest_messages) := ⟨rfl, rfl, rfl, by decide +kernel, rfl, by decide +kernel, by decide +kernel⟩
abbrev s_law_pool : Stmt := topS 32
abbrev sc_law_pool_N : List Str := ["script", "cell"]
theorem sc_law_pool : FnScope sc_law_pool_N ["script"] (defScope s_law_pool) := ⟨rfl, rfl, rfl, by decide +kernel, rfl, by decide +kernel, by decide +kernel⟩
abbrev s_law_take : Stmt := topS 33
abbrev sc_law_take_N : List Str := ["pool", "many", "digit", "cell", "mixed"]
theorem sc_law_take : FnScope sc_law_take_N ["pool", "many"] (defScope s_law_take) := ⟨rfl, rfl, rfl, by decide +kernel, rfl, by decide +kernel, by decide +kernel⟩
abbrev s_law_is_integer : Stmt := topS 34
abbrev sc_law_is_integer_N : List Str := ["actual"]
theorem sc_law_is_integer : FnScope sc_law_is_integer_N ["actual"] (defScope s_law_is_integer) := ⟨rfl, rfl, rfl, by decide +kernel, rfl, by decide +kernel, by decide +kernel⟩
abbrev s_law_same : Stmt := topS 35
abbrev sc_law_same_N : List Str := ["actual", "due", "k"]
theorem sc_law_same : FnScope sc_law_same_N ["actual", "due"] (defScope s_law_same) := ⟨rfl, rfl, rfl, by decide +kernel, rfl, by decide +kernel, by decide +kernel⟩
abbrev s_law_pick : Stmt := topS 36
abbrev sc_law_pick_N : List Str := ["pool", "rows"]
theorem sc_law_pick : FnScope sc_law_pick_N ["pool", "rows"] (defScope s_law_pick) := ⟨rfl, rfl, rfl, by decide +kernel, rfl, by decide +kernel, by decide +kernel⟩
abbrev s_law_parity : Stmt := topS 37
abbrev sc_law_parity_N : List Str := ["pool", "variables", "letters", "letter"]
theorem sc_law_parity : FnScope sc_law_parity_N ["pool", "variables"] (defScope s_law_parity) := ⟨rfl, rfl, rfl, by decide +kernel, rfl, by decide +kernel, by decide +kernel⟩
abbrev s_law_sum : Stmt := topS 38
abbrev sc_law_sum_N : List Str := ["texts", "whole", "letter"]
theorem sc_law_sum : FnScope sc_law_sum_N ["texts"] (defScope s_law_sum) := ⟨rfl, rfl, rfl, by decide +kernel, rfl, by decide +kernel, by decide +kernel⟩
abbrev s_law_is_odd : Stmt := topS 39
abbrev sc_law_is_odd_N : List Str := ["text", "assignment", "letter"]
theorem sc_law_is_odd : FnScope sc_law_is_odd_N ["text", "assignment"] (defScope s_law_is_odd) := ⟨rfl, rfl, rfl, by decide +kernel, rfl, by decide +kernel, by decide +kernel⟩
abbrev s_law_derived : Stmt := topS 40
abbrev sc_law_derived_N : List Str := ["messages", "found", "message", "one"]
theorem sc_law_derived : FnScope sc_law_derived_N ["messages"] (defScope s_law_derived) := ⟨rfl, rfl, rfl, by decide +kernel, rfl, by decide +kernel, by decide +kernel⟩
abbrev s_law_rank : Stmt := topS 41
abbrev sc_law_rank_N : List Str := ["messages", "many", "found", "turn"]
theorem sc_law_rank : FnScope sc_law_rank_N ["messages"] (defScope s_law_rank) := ⟨rfl, rfl, rfl, by decide +kernel, rfl, by decide +kernel, by decide +kernel⟩
abbrev s_law_assignments : Stmt := topS 42
abbrev sc_law_assignments_N : List Str := ["variables", "found", "letter", "one"]
theorem sc_law_assignments : FnScope sc_law_assignments_N ["variables"] (defScope s_law_assignments) := ⟨rfl, rfl, rfl, by decide +kernel, rfl, by decide +kernel, by decide +kernel⟩
abbrev s_law_shaped : Stmt := topS 43
abbrev sc_law_shaped_N : List Str := ["pool", "rows"]
theorem sc_law_shaped : FnScope sc_law_shaped_N ["pool", "rows"] (defScope s_law_shaped) := ⟨rfl, rfl, rfl, by decide +kernel, rfl, by decide +kernel, by decide +kernel⟩
abbrev s_law_rows : Stmt := topS 44
abbrev sc_law_rows_N : List Str := ["pool", "variables", "most", "rows", "k", "row"]
theorem sc_law_rows : FnScope sc_law_rows_N ["pool", "variables", "most"] (defScope s_law_rows) := ⟨rfl, rfl, rfl, by decide +kernel, rfl, by decide +kernel, by decide +kernel⟩
abbrev s_law_is_told_apart : Stmt := topS 45
abbrev sc_law_is_told_apart_N : List Str := ["variables", "messages", "parity", "seen", "one", "key", "value", "message"]
theorem sc_law_is_told_apart : FnScope sc_law_is_told_apart_N ["variables", "messages", "parity"] (defScope s_law_is_told_apart) := ⟨rfl, rfl, rfl, by decide +kernel, rfl, by decide +kernel, by decide +kernel⟩
abbrev s_law_ask : Stmt := topS 46
abbrev sc_law_ask_N : List Str := ["kind", "messages", "other", "message"]
theorem sc_law_ask : FnScope sc_law_ask_N ["kind", "messages", "other"] (defScope s_law_ask) := ⟨rfl, rfl, rfl, by decide +kernel, rfl, by decide +kernel, by decide +kernel⟩
abbrev s_law_refused : Stmt := topS 47
abbrev sc_law_refused_N : List Str := ["kind", "messages", "other", "wrong"]
theorem sc_law_refused : FnScope sc_law_refused_N ["kind", "messages", "other"] (defScope s_law_refused) := ⟨rfl, rfl, rfl, by decide +kernel, rfl, by decide +kernel, by decide +kernel⟩
abbrev s_law_lettered : Stmt := topS 48
abbrev sc_law_lettered_N : List Str := ["pool", "messages", "letters", "letter", "text"]
theorem sc_law_lettered : FnScope sc_law_lettered_N ["pool", "messages"] (defScope s_law_lettered) := ⟨rfl, rfl, rfl, by decide +kernel, rfl, by decide +kernel, by decide +kernel⟩
abbrev s_law : Stmt := topS 49
abbrev sc_law_N : List Str := ["script", "pool", "variables", "messages", "sums", "firsts", "turn", "parity", "whole", "told", "strange", "wrong", "kind", "at", "k"]
theorem sc_law : FnScope sc_law_N ["script"] (defScope s_law) := ⟨rfl, rfl, rfl, by decide +kernel, rfl, by decide +kernel, by decide +kernel⟩
structure Ads where
  a_first_letters : Addr
  d_first_letters : FuncData
  a_is_ascending : Addr
  d_is_ascending : FuncData
  a_is_parity : Addr
  d_is_parity : FuncData
  a_mask_of : Addr
  d_mask_of : FuncData
  a_text_of : Addr
  d_text_of : FuncData
  a_is_odd : Addr
  d_is_odd : FuncData
  a_remainder : Addr
  d_remainder : FuncData
  a_spanned : Addr
  d_spanned : FuncData
  t_spanned : Addr
  a_basis_indices : Addr
  d_basis_indices : FuncData
  a_BadParity_init : Addr
  d_BadParity_init : FuncData
  a_message_rank : Addr
  d_message_rank : FuncData
  a_is_derived : Addr
  d_is_derived : FuncData
  a_basis : Addr
  d_basis : FuncData
  a_combination : Addr
  d_combination : FuncData
  a_separating : Addr
  d_separating : FuncData
  a_redundant : Addr
  d_redundant : FuncData
  a_is_equivalent : Addr
  d_is_equivalent : FuncData
  a_odd_ones : Addr
  d_odd_ones : FuncData
  a_assignments : Addr
  d_assignments : FuncData
  a_parity_mask : Addr
  d_parity_mask : FuncData
  a_message_masks : Addr
  d_message_masks : FuncData
  a_assignment_masks : Addr
  d_assignment_masks : FuncData
  a_gives : Addr
  d_gives : FuncData
  a_is_derived_from_others : Addr
  d_is_derived_from_others : FuncData
  a_fewest_messages : Addr
  d_fewest_messages : FuncData
  a_law_pool : Addr
  d_law_pool : FuncData
  a_law_take : Addr
  d_law_take : FuncData
  a_law_is_integer : Addr
  d_law_is_integer : FuncData
  a_law_same : Addr
  d_law_same : FuncData
  a_law_pick : Addr
  d_law_pick : FuncData
  a_law_parity : Addr
  d_law_parity : FuncData
  a_law_sum : Addr
  d_law_sum : FuncData
  a_law_is_odd : Addr
  d_law_is_odd : FuncData
  a_law_derived : Addr
  d_law_derived : FuncData
  a_law_rank : Addr
  d_law_rank : FuncData
  a_law_assignments : Addr
  d_law_assignments : FuncData
  a_law_shaped : Addr
  d_law_shaped : FuncData
  a_law_rows : Addr
  d_law_rows : FuncData
  a_law_is_told_apart : Addr
  d_law_is_told_apart : FuncData
  a_law_ask : Addr
  d_law_ask : FuncData
  a_law_refused : Addr
  d_law_refused : FuncData
  a_law_lettered : Addr
  d_law_lettered : FuncData
  a_law : Addr
  d_law : FuncData
  c_KnowError : Addr
  c_BadParity : Addr
  t_PARITY_LETTERS : Tok
structure Txt (K : PySem.W.Frag) (mg : Str → Option Value) (a : Ads) : Prop where
  F_first_letters : Fun K "first_letters" "first_letters" s_first_letters a.a_first_letters a.d_first_letters
  b_first_letters : Binds K a.d_first_letters ["letters", "count"] []
  g_first_letters : mg "first_letters" = some (.ref a.a_first_letters)
  F_is_ascending : Fun K "is_ascending" "is_ascending" s_is_ascending a.a_is_ascending a.d_is_ascending
  b_is_ascending : Binds K a.d_is_ascending ["letters", "text"] []
  g_is_ascending : mg "is_ascending" = some (.ref a.a_is_ascending)
  F_is_parity : Fun K "is_parity" "is_parity" s_is_parity a.a_is_parity a.d_is_parity
  b_is_parity : Binds K a.d_is_parity ["text"] []
  g_is_parity : mg "is_parity" = some (.ref a.a_is_parity)
  F_mask_of : Fun K "mask_of" "mask_of" s_mask_of a.a_mask_of a.d_mask_of
  b_mask_of : Binds K a.d_mask_of ["parity"] []
  g_mask_of : mg "mask_of" = some (.ref a.a_mask_of)
  F_text_of : Fun K "text_of" "text_of" s_text_of a.a_text_of a.d_text_of
  b_text_of : Binds K a.d_text_of ["mask"] []
  g_text_of : mg "text_of" = some (.ref a.a_text_of)
  F_is_odd : Fun K "is_odd" "is_odd" s_is_odd a.a_is_odd a.d_is_odd
  b_is_odd : Binds K a.d_is_odd ["mask", "assignment"] []
  g_is_odd : mg "is_odd" = some (.ref a.a_is_odd)
  F_remainder : Fun K "remainder" "remainder" s_remainder a.a_remainder a.d_remainder
  b_remainder : Binds K a.d_remainder ["span", "mask"] []
  g_remainder : mg "remainder" = some (.ref a.a_remainder)
  F_spanned : FunD K "spanned" "spanned" (defArgs s_spanned) (defBody s_spanned) (defScope s_spanned) [.ref a.t_spanned] [] a.a_spanned a.d_spanned
  b_spanned : Binds K a.d_spanned ["masks", "span"] []
  b1_spanned : ∃ ds, Vals [V.ref a.t_spanned] ds ∧ Binds K a.d_spanned ["masks", "span"] ds
  e_spanned : ∀ H : Hp, SqT K H a.t_spanned []
  k_spanned : PySem.W.keepIn K (.ref a.a_spanned) = true
  g_spanned : mg "spanned" = some (.ref a.a_spanned)
  F_basis_indices : Fun K "basis_indices" "basis_indices" s_basis_indices a.a_basis_indices a.d_basis_indices
  b_basis_indices : Binds K a.d_basis_indices ["masks"] []
  g_basis_indices : mg "basis_indices" = some (.ref a.a_basis_indices)
  F_BadParity_init : Fun K "__init__" "BadParity.__init__" s_BadParity_init a.a_BadParity_init a.d_BadParity_init
  b_BadParity_init : Binds K a.d_BadParity_init ["self", "text"] []
  I_BadParity_init : PySem.W.findIn K (.ref a.c_BadParity) "__init__" = some (some (.ref a.a_BadParity_init))
  T_BadParity_init : PySem.W.typeIn K (.ref a.a_BadParity_init) = some (.type "function")
  F_message_rank : Fun K "message_rank" "message_rank" s_message_rank a.a_message_rank a.d_message_rank
  b_message_rank : Binds K a.d_message_rank ["messages"] []
  g_message_rank : mg "message_rank" = some (.ref a.a_message_rank)
  F_is_derived : Fun K "is_derived" "is_derived" s_is_derived a.a_is_derived a.d_is_derived
  b_is_derived : Binds K a.d_is_derived ["messages", "parity"] []
  g_is_derived : mg "is_derived" = some (.ref a.a_is_derived)
  F_basis : Fun K "basis" "basis" s_basis a.a_basis a.d_basis
  b_basis : Binds K a.d_basis ["messages"] []
  g_basis : mg "basis" = some (.ref a.a_basis)
  F_combination : Fun K "combination" "combination" s_combination a.a_combination a.d_combination
  b_combination : Binds K a.d_combination ["messages", "parity"] []
  g_combination : mg "combination" = some (.ref a.a_combination)
  F_separating : Fun K "separating" "separating" s_separating a.a_separating a.d_separating
  b_separating : Binds K a.d_separating ["variables", "messages", "parity"] []
  g_separating : mg "separating" = some (.ref a.a_separating)
  F_redundant : Fun K "redundant" "redundant" s_redundant a.a_redundant a.d_redundant
  b_redundant : Binds K a.d_redundant ["messages"] []
  g_redundant : mg "redundant" = some (.ref a.a_redundant)
  F_is_equivalent : Fun K "is_equivalent" "is_equivalent" s_is_equivalent a.a_is_equivalent a.d_is_equivalent
  b_is_equivalent : Binds K a.d_is_equivalent ["first", "second"] []
  g_is_equivalent : mg "is_equivalent" = some (.ref a.a_is_equivalent)
  F_odd_ones : Fun K "odd_ones" "odd_ones" s_odd_ones a.a_odd_ones a.d_odd_ones
  b_odd_ones : Binds K a.d_odd_ones ["messages", "assignment"] []
  g_odd_ones : mg "odd_ones" = some (.ref a.a_odd_ones)
  F_assignments : Fun K "assignments" "assignments" s_assignments a.a_assignments a.d_assignments
  b_assignments : Binds K a.d_assignments ["variables", "messages", "told"] []
  g_assignments : mg "assignments" = some (.ref a.a_assignments)
  F_parity_mask : Fun K "parity_mask" "parity_mask" s_parity_mask a.a_parity_mask a.d_parity_mask
  b_parity_mask : Binds K a.d_parity_mask ["text"] []
  g_parity_mask : mg "parity_mask" = some (.ref a.a_parity_mask)
  F_message_masks : Fun K "_message_masks" "_message_masks" s_message_masks a.a_message_masks a.d_message_masks
  b_message_masks : Binds K a.d_message_masks ["messages"] []
  g_message_masks : mg "_message_masks" = some (.ref a.a_message_masks)
  F_assignment_masks : Fun K "_assignment_masks" "_assignment_masks" s_assignment_masks a.a_assignment_masks a.d_assignment_masks
  b_assignment_masks : Binds K a.d_assignment_masks ["variables"] []
  g_assignment_masks : mg "_assignment_masks" = some (.ref a.a_assignment_masks)
  F_gives : Fun K "_gives" "_gives" s_gives a.a_gives a.d_gives
  b_gives : Binds K a.d_gives ["assignment", "wanted"] []
  g_gives : mg "_gives" = some (.ref a.a_gives)
  F_is_derived_from_others : Fun K "_is_derived_from_others" "_is_derived_from_others" s_is_derived_from_others a.a_is_derived_from_others a.d_is_derived_from_others
  b_is_derived_from_others : Binds K a.d_is_derived_from_others ["masks", "index"] []
  g_is_derived_from_others : mg "_is_derived_from_others" = some (.ref a.a_is_derived_from_others)
  F_fewest_messages : Fun K "_fewest_messages" "_fewest_messages" s_fewest_messages a.a_fewest_messages a.d_fewest_messages
  b_fewest_messages : Binds K a.d_fewest_messages ["masks"] []
  g_fewest_messages : mg "_fewest_messages" = some (.ref a.a_fewest_messages)
  F_law_pool : Fun K "_law_pool" "_law_pool" s_law_pool a.a_law_pool a.d_law_pool
  b_law_pool : Binds K a.d_law_pool ["script"] []
  g_law_pool : mg "_law_pool" = some (.ref a.a_law_pool)
  F_law_take : Fun K "_law_take" "_law_take" s_law_take a.a_law_take a.d_law_take
  b_law_take : Binds K a.d_law_take ["pool", "many"] []
  g_law_take : mg "_law_take" = some (.ref a.a_law_take)
  F_law_is_integer : Fun K "_law_is_integer" "_law_is_integer" s_law_is_integer a.a_law_is_integer a.d_law_is_integer
  b_law_is_integer : Binds K a.d_law_is_integer ["actual"] []
  g_law_is_integer : mg "_law_is_integer" = some (.ref a.a_law_is_integer)
  F_law_same : Fun K "_law_same" "_law_same" s_law_same a.a_law_same a.d_law_same
  b_law_same : Binds K a.d_law_same ["actual", "due"] []
  g_law_same : mg "_law_same" = some (.ref a.a_law_same)
  F_law_pick : Fun K "_law_pick" "_law_pick" s_law_pick a.a_law_pick a.d_law_pick
  b_law_pick : Binds K a.d_law_pick ["pool", "rows"] []
  g_law_pick : mg "_law_pick" = some (.ref a.a_law_pick)
  F_law_parity : Fun K "_law_parity" "_law_parity" s_law_parity a.a_law_parity a.d_law_parity
  b_law_parity : Binds K a.d_law_parity ["pool", "variables"] []
  g_law_parity : mg "_law_parity" = some (.ref a.a_law_parity)
  F_law_sum : Fun K "_law_sum" "_law_sum" s_law_sum a.a_law_sum a.d_law_sum
  b_law_sum : Binds K a.d_law_sum ["texts"] []
  g_law_sum : mg "_law_sum" = some (.ref a.a_law_sum)
  F_law_is_odd : Fun K "_law_is_odd" "_law_is_odd" s_law_is_odd a.a_law_is_odd a.d_law_is_odd
  b_law_is_odd : Binds K a.d_law_is_odd ["text", "assignment"] []
  g_law_is_odd : mg "_law_is_odd" = some (.ref a.a_law_is_odd)
  F_law_derived : Fun K "_law_derived" "_law_derived" s_law_derived a.a_law_derived a.d_law_derived
  b_law_derived : Binds K a.d_law_derived ["messages"] []
  g_law_derived : mg "_law_derived" = some (.ref a.a_law_derived)
  F_law_rank : Fun K "_law_rank" "_law_rank" s_law_rank a.a_law_rank a.d_law_rank
  b_law_rank : Binds K a.d_law_rank ["messages"] []
  g_law_rank : mg "_law_rank" = some (.ref a.a_law_rank)
  F_law_assignments : Fun K "_law_assignments" "_law_assignments" s_law_assignments a.a_law_assignments a.d_law_assignments
  b_law_assignments : Binds K a.d_law_assignments ["variables"] []
  g_law_assignments : mg "_law_assignments" = some (.ref a.a_law_assignments)
  F_law_shaped : Fun K "_law_shaped" "_law_shaped" s_law_shaped a.a_law_shaped a.d_law_shaped
  b_law_shaped : Binds K a.d_law_shaped ["pool", "rows"] []
  g_law_shaped : mg "_law_shaped" = some (.ref a.a_law_shaped)
  F_law_rows : Fun K "_law_rows" "_law_rows" s_law_rows a.a_law_rows a.d_law_rows
  b_law_rows : Binds K a.d_law_rows ["pool", "variables", "most"] []
  g_law_rows : mg "_law_rows" = some (.ref a.a_law_rows)
  F_law_is_told_apart : Fun K "_law_is_told_apart" "_law_is_told_apart" s_law_is_told_apart a.a_law_is_told_apart a.d_law_is_told_apart
  b_law_is_told_apart : Binds K a.d_law_is_told_apart ["variables", "messages", "parity"] []
  g_law_is_told_apart : mg "_law_is_told_apart" = some (.ref a.a_law_is_told_apart)
  F_law_ask : Fun K "_law_ask" "_law_ask" s_law_ask a.a_law_ask a.d_law_ask
  b_law_ask : Binds K a.d_law_ask ["kind", "messages", "other"] []
  g_law_ask : mg "_law_ask" = some (.ref a.a_law_ask)
  F_law_refused : Fun K "_law_refused" "_law_refused" s_law_refused a.a_law_refused a.d_law_refused
  b_law_refused : Binds K a.d_law_refused ["kind", "messages", "other"] []
  g_law_refused : mg "_law_refused" = some (.ref a.a_law_refused)
  F_law_lettered : Fun K "_law_lettered" "_law_lettered" s_law_lettered a.a_law_lettered a.d_law_lettered
  b_law_lettered : Binds K a.d_law_lettered ["pool", "messages"] []
  g_law_lettered : mg "_law_lettered" = some (.ref a.a_law_lettered)
  F_law : Fun K "law" "law" s_law a.a_law a.d_law
  b_law : Binds K a.d_law ["script"] []
  B_law : ∀ (s : Shared) (u : Value), BindsTo s a.d_law ⟨[u], []⟩ [("script", u)]
  g_law : mg "law" = some (.ref a.a_law)
  g_KnowError : mg "KnowError" = some (.ref a.c_KnowError)
  g_BadParity : mg "BadParity" = some (.ref a.c_BadParity)
  X_BadParity : ExcA K a.c_BadParity
  i_BadParity_KnowError : PySem.W.kitOne K (.ref a.c_BadParity) (.ref a.c_KnowError) = some true
  i_BadParity_ValueError : PySem.W.kitOne K (.ref a.c_BadParity) (.type "ValueError") = some true
  O_BadParity : OexC K a.c_BadParity
  n_BadParity_text : PySem.W.findIn K (.ref a.c_BadParity) "text" = some none
  m_PARITY_LETTERS : mg "PARITY_LETTERS" = some (.str "abcdefgh" a.t_PARITY_LETTERS)
  z_len : mg "len" = none
  z_int : mg "int" = none
  z_max : mg "max" = none
  z_min : mg "min" = none
  z_sum : mg "sum" = none
  z_sorted : mg "sorted" = none
  z_range : mg "range" = none
  z_tuple : mg "tuple" = none
  z_list : mg "list" = none
  z_isinstance : mg "isinstance" = none
  z_enumerate : mg "enumerate" = none
  z_all : mg "all" = none
  z_any : mg "any" = none
  z_bool : mg "bool" = none
  z_str : mg "str" = none
  z_zip : mg "zip" = none
  z_set : mg "set" = none
end AK
set_option Elab.async false
set_option linter.all false
set_option maxRecDepth 100000
set_option maxHeartbeats 0
namespace AK
open PySem PySem.Spec PyProof.Rows L2
def dd_first_letters : He.DefD := ⟨("first_letters", none), "first_letters", "first_letters", defArgs s_first_letters, defBody s_first_letters, defScope s_first_letters, [], []⟩
def dd_is_ascending : He.DefD := ⟨("is_ascending", none), "is_ascending", "is_ascending", defArgs s_is_ascending, defBody s_is_ascending, defScope s_is_ascending, [], []⟩
def dd_is_parity : He.DefD := ⟨("is_parity", none), "is_parity", "is_parity", defArgs s_is_parity, defBody s_is_parity, defScope s_is_parity, [], []⟩
def dd_mask_of : He.DefD := ⟨("mask_of", none), "mask_of", "mask_of", defArgs s_mask_of, defBody s_mask_of, defScope s_mask_of, [], []⟩
def dd_text_of : He.DefD := ⟨("text_of", none), "text_of", "text_of", defArgs s_text_of, defBody s_text_of, defScope s_text_of, [], []⟩
def dd_is_odd : He.DefD := ⟨("is_odd", none), "is_odd", "is_odd", defArgs s_is_odd, defBody s_is_odd, defScope s_is_odd, [], []⟩
def dd_remainder : He.DefD := ⟨("remainder", none), "remainder", "remainder", defArgs s_remainder, defBody s_remainder, defScope s_remainder, [], []⟩
def dd_spanned : He.DefD := ⟨("spanned", none), "spanned", "spanned", defArgs s_spanned, defBody s_spanned, defScope s_spanned, [.adr (He.dflAt ("spanned", none) 0)], []⟩
def dd_basis_indices : He.DefD := ⟨("basis_indices", none), "basis_indices", "basis_indices", defArgs s_basis_indices, defBody s_basis_indices, defScope s_basis_indices, [], []⟩
def dd_BadParity_init : He.DefD := ⟨("BadParity", some "__init__"), "__init__", "BadParity.__init__", defArgs s_BadParity_init, defBody s_BadParity_init, defScope s_BadParity_init, [], []⟩
def dd_message_rank : He.DefD := ⟨("message_rank", none), "message_rank", "message_rank", defArgs s_message_rank, defBody s_message_rank, defScope s_message_rank, [], []⟩
def dd_is_derived : He.DefD := ⟨("is_derived", none), "is_derived", "is_derived", defArgs s_is_derived, defBody s_is_derived, defScope s_is_derived, [], []⟩
def dd_basis : He.DefD := ⟨("basis", none), "basis", "basis", defArgs s_basis, defBody s_basis, defScope s_basis, [], []⟩
def dd_combination : He.DefD := ⟨("combination", none), "combination", "combination", defArgs s_combination, defBody s_combination, defScope s_combination, [], []⟩
def dd_separating : He.DefD := ⟨("separating", none), "separating", "separating", defArgs s_separating, defBody s_separating, defScope s_separating, [], []⟩
def dd_redundant : He.DefD := ⟨("redundant", none), "redundant", "redundant", defArgs s_redundant, defBody s_redundant, defScope s_redundant, [], []⟩
def dd_is_equivalent : He.DefD := ⟨("is_equivalent", none), "is_equivalent", "is_equivalent", defArgs s_is_equivalent, defBody s_is_equivalent, defScope s_is_equivalent, [], []⟩
def dd_odd_ones : He.DefD := ⟨("odd_ones", none), "odd_ones", "odd_ones", defArgs s_odd_ones, defBody s_odd_ones, defScope s_odd_ones, [], []⟩
def dd_assignments : He.DefD := ⟨("assignments", none), "assignments", "assignments", defArgs s_assignments, defBody s_assignments, defScope s_assignments, [], []⟩
def dd_parity_mask : He.DefD := ⟨("parity_mask", none), "parity_mask", "parity_mask", defArgs s_parity_mask, defBody s_parity_mask, defScope s_parity_mask, [], []⟩
def dd_message_masks : He.DefD := ⟨("_message_masks", none), "_message_masks", "_message_masks", defArgs s_message_masks, defBody s_message_masks, defScope s_message_masks, [], []⟩
def dd_assignment_masks : He.DefD := ⟨("_assignment_masks", none), "_assignment_masks", "_assignment_masks", defArgs s_assignment_masks, defBody s_assignment_masks, defScope s_assignment_masks, [], []⟩
def dd_gives : He.DefD := ⟨("_gives", none), "_gives", "_gives", defArgs s_gives, defBody s_gives, defScope s_gives, [], []⟩
def dd_is_derived_from_others : He.DefD := ⟨("_is_derived_from_others", none), "_is_derived_from_others", "_is_derived_from_others", defArgs s_is_derived_from_others, defBody s_is_derived_from_others, defScope s_is_derived_from_others, [], []⟩
def dd_fewest_messages : He.DefD := ⟨("_fewest_messages", none), "_fewest_messages", "_fewest_messages", defArgs s_fewest_messages, defBody s_fewest_messages, defScope s_fewest_messages, [], []⟩
def dd_law_pool : He.DefD := ⟨("_law_pool", none), "_law_pool", "_law_pool", defArgs s_law_pool, defBody s_law_pool, defScope s_law_pool, [], []⟩
def dd_law_take : He.DefD := ⟨("_law_take", none), "_law_take", "_law_take", defArgs s_law_take, defBody s_law_take, defScope s_law_take, [], []⟩
def dd_law_is_integer : He.DefD := ⟨("_law_is_integer", none), "_law_is_integer", "_law_is_integer", defArgs s_law_is_integer, defBody s_law_is_integer, defScope s_law_is_integer, [], []⟩
def dd_law_same : He.DefD := ⟨("_law_same", none), "_law_same", "_law_same", defArgs s_law_same, defBody s_law_same, defScope s_law_same, [], []⟩
def dd_law_pick : He.DefD := ⟨("_law_pick", none), "_law_pick", "_law_pick", defArgs s_law_pick, defBody s_law_pick, defScope s_law_pick, [], []⟩
def dd_law_parity : He.DefD := ⟨("_law_parity", none), "_law_parity", "_law_parity", defArgs s_law_parity, defBody s_law_parity, defScope s_law_parity, [], []⟩
def dd_law_sum : He.DefD := ⟨("_law_sum", none), "_law_sum", "_law_sum", defArgs s_law_sum, defBody s_law_sum, defScope s_law_sum, [], []⟩
def dd_law_is_odd : He.DefD := ⟨("_law_is_odd", none), "_law_is_odd", "_law_is_odd", defArgs s_law_is_odd, defBody s_law_is_odd, defScope s_law_is_odd, [], []⟩
def dd_law_derived : He.DefD := ⟨("_law_derived", none), "_law_derived", "_law_derived", defArgs s_law_derived, defBody s_law_derived, defScope s_law_derived, [], []⟩
def dd_law_rank : He.DefD := ⟨("_law_rank", none), "_law_rank", "_law_rank", defArgs s_law_rank, defBody s_law_rank, defScope s_law_rank, [], []⟩
def dd_law_assignments : He.DefD := ⟨("_law_assignments", none), "_law_assignments", "_law_assignments", defArgs s_law_assignments, defBody s_law_assignments, defScope s_law_assignments, [], []⟩
def dd_law_shaped : He.DefD := ⟨("_law_shaped", none), "_law_shaped", "_law_shaped", defArgs s_law_shaped, defBody s_law_shaped, defScope s_law_shaped, [], []⟩
def dd_law_rows : He.DefD := ⟨("_law_rows", none), "_law_rows", "_law_rows", defArgs s_law_rows, defBody s_law_rows, defScope s_law_rows, [], []⟩
def dd_law_is_told_apart : He.DefD := ⟨("_law_is_told_apart", none), "_law_is_told_apart", "_law_is_told_apart", defArgs s_law_is_told_apart, defBody s_law_is_told_apart, defScope s_law_is_told_apart, [], []⟩
def dd_law_ask : He.DefD := ⟨("_law_ask", none), "_law_ask", "_law_ask", defArgs s_law_ask, defBody s_law_ask, defScope s_law_ask, [], []⟩
def dd_law_refused : He.DefD := ⟨("_law_refused", none), "_law_refused", "_law_refused", defArgs s_law_refused, defBody s_law_refused, defScope s_law_refused, [], []⟩
def dd_law_lettered : He.DefD := ⟨("_law_lettered", none), "_law_lettered", "_law_lettered", defArgs s_law_lettered, defBody s_law_lettered, defScope s_law_lettered, [], []⟩
def dd_law : He.DefD := ⟨("law", none), "law", "law", defArgs s_law, defBody s_law, defScope s_law, [], []⟩
def fnL1 : List He.DefD := [dd_first_letters,
  dd_is_ascending,
  dd_is_parity,
  dd_mask_of,
  dd_text_of,
  dd_is_odd,
  dd_remainder,
  dd_spanned,
  dd_basis_indices,
  dd_BadParity_init,
  dd_message_rank,
  dd_is_derived,
  dd_basis,
  dd_combination,
  dd_separating,
  dd_redundant,
  dd_is_equivalent,
  dd_odd_ones,
  dd_assignments,
  dd_parity_mask,
  dd_message_masks,
  dd_assignment_masks]
def fnL2 : List He.DefD := [dd_gives,
  dd_is_derived_from_others,
  dd_fewest_messages,
  dd_law_pool,
  dd_law_take,
  dd_law_is_integer,
  dd_law_same,
  dd_law_pick,
  dd_law_parity,
  dd_law_sum,
  dd_law_is_odd,
  dd_law_derived,
  dd_law_rank,
  dd_law_assignments,
  dd_law_shaped,
  dd_law_rows,
  dd_law_is_told_apart,
  dd_law_ask,
  dd_law_refused,
  dd_law_lettered,
  dd_law]
def fnL : List He.DefD := (fnL1 ++ fnL2)
def faL1 : List He.Fa := [.glo "first_letters",
  .glo "is_ascending",
  .glo "is_parity",
  .glo "mask_of",
  .glo "text_of",
  .glo "is_odd",
  .glo "remainder",
  .glo "spanned",
  .glo "basis_indices",
  .glo "message_rank",
  .glo "is_derived",
  .glo "basis",
  .glo "combination",
  .glo "separating",
  .glo "redundant",
  .glo "is_equivalent",
  .glo "odd_ones",
  .glo "assignments",
  .glo "parity_mask",
  .glo "_message_masks",
  .glo "_assignment_masks",
  .glo "_gives",
  .glo "_is_derived_from_others",
  .glo "_fewest_messages",
  .glo "_law_pool",
  .glo "_law_take",
  .glo "_law_is_integer",
  .glo "_law_same",
  .glo "_law_pick",
  .glo "_law_parity",
  .glo "_law_sum"]
def faL2 : List He.Fa := [.glo "_law_is_odd",
  .glo "_law_derived",
  .glo "_law_rank",
  .glo "_law_assignments",
  .glo "_law_shaped",
  .glo "_law_rows",
  .glo "_law_is_told_apart",
  .glo "_law_ask",
  .glo "_law_refused",
  .glo "_law_lettered",
  .glo "law",
  .glo "KnowError",
  .glo "BadParity",
  .str "PARITY_LETTERS" "abcdefgh",
  .free "len",
  .free "int",
  .free "max",
  .free "min",
  .free "sum",
  .free "sorted",
  .free "range",
  .free "tuple",
  .free "list",
  .free "isinstance",
  .free "enumerate",
  .free "all",
  .free "any",
  .free "bool",
  .free "str",
  .free "zip",
  .free "set"]
def faL : List He.Fa := (faL1 ++ faL2)
def tfL1 : List He.Defn := []
def tfL2 : List He.Defn := []
def tfL : List He.Defn := (tfL1 ++ tfL2)
def exL1 (K : PySem.W.Frag) : List Bool := [tup0B K (He.dflAt ("spanned", none) 0 K),
  PySem.W.keepIn K (.ref (He.fAd K ("spanned", none))),
  He.eqO (PySem.W.findIn K (.ref (He.ga K "BadParity")) "__init__") (some (some (.ref (He.ma K (He.ga K "BadParity") "__init__")))),
  decide (PySem.W.typeIn K (.ref (He.ma K (He.ga K "BadParity") "__init__")) = some (.type "function")),
  excB K (He.ga K "BadParity")]
def exL2 (K : PySem.W.Frag) : List Bool := [decide (PySem.W.kitOne K (.ref (He.ga K "BadParity")) (.ref (He.ga K "KnowError")) = some true),
  decide (PySem.W.kitOne K (.ref (He.ga K "BadParity")) (.type "ValueError") = some true),
  oexB K (He.ga K "BadParity"),
  He.eqO (PySem.W.findIn K (.ref (He.ga K "BadParity")) "text") (some none)]
def exL (K : PySem.W.Frag) : List Bool := (exL1 K ++ exL2 K)
def exB (K : PySem.W.Frag) : Bool := (exL K).all id
abbrev R0 : PySem.W.OpenRow := PySem.W.OpenLaw.row PySem.Challenge.rw_allknow_k04_what_can_be_derived
abbrev hkX : PySem.W.Hook := hookP 1000 faL fnL tfL exB
def obX (s : PySem.W.SharedT) : He.AlX := pieceO 1000 faL fnL tfL exB (HandSHeadRun.getT s)
theorem obX_eq (s : PySem.W.SharedT) : obX s = hkX.obs s.abs := pieceO_eq s
def looseL : List PySem.Str := [PySem.Str.ofString "__name__", PySem.Str.ofString "KnowError", PySem.Str.ofString "first_letters", PySem.Str.ofString "is_ascending", PySem.Str.ofString "PARITY_LETTERS", PySem.Str.ofString "is_parity", PySem.Str.ofString "mask_of", PySem.Str.ofString "text_of", PySem.Str.ofString "is_odd", PySem.Str.ofString "remainder", PySem.Str.ofString "spanned", PySem.Str.ofString "basis_indices", PySem.Str.ofString "BadParity", PySem.Str.ofString "message_rank", PySem.Str.ofString "is_derived", PySem.Str.ofString "basis", PySem.Str.ofString "combination", PySem.Str.ofString "separating", PySem.Str.ofString "redundant", PySem.Str.ofString "is_equivalent", PySem.Str.ofString "odd_ones", PySem.Str.ofString "assignments", PySem.Str.ofString "parity_mask", PySem.Str.ofString "_message_masks", PySem.Str.ofString "_assignment_masks", PySem.Str.ofString "_gives", PySem.Str.ofString "_is_derived_from_others", PySem.Str.ofString "_fewest_messages", PySem.Str.ofString "_law_pool", PySem.Str.ofString "_law_take", PySem.Str.ofString "_law_is_integer", PySem.Str.ofString "_law_same", PySem.Str.ofString "_law_pick", PySem.Str.ofString "_law_parity", PySem.Str.ofString "_law_sum", PySem.Str.ofString "_law_is_odd", PySem.Str.ofString "_law_derived", PySem.Str.ofString "_law_rank", PySem.Str.ofString "_law_assignments", PySem.Str.ofString "_law_shaped", PySem.Str.ofString "_law_rows", PySem.Str.ofString "_law_is_told_apart", PySem.Str.ofString "_law_ask", PySem.Str.ofString "_law_refused", PySem.Str.ofString "_law_lettered"]
noncomputable abbrev whX (w : World) (os : OsState) := HandSHeadRun.endF (HandSHeadRun.stepQ (HandSHeadRun.denQ HandSHeadRun.tabQ) R0.prog w) 6000 R0.prog w os
theorem runL (w : World) (os : OsState) : (whX w os).map (fun x => HandSHeadRun.looksF R0.prog (PySem.W.boot_heap w.params) x.abs) = some true := by
  kernel_rfl
theorem runG (w : World) (os : OsState) : (whX w os).map (fun x => HandSHeadRun.seenQ (PySem.W.view R0.prog [49]) looseL (importedModules R0.prog.main.body) (fun s => PySem.W.xlAt (PySem.W.view R0.prog [49]) [] s && PySem.W.recOk R0.toRowW.records s) x.abs) = some (PySem.W.openGood (PySem.W.view R0.prog [49]) looseL) := by
  kernel_rfl
theorem runO1 (w : World) (os : OsState) : (whX w os).map (fun x => pieceO 1000 faL1 fnL1 tfL1 (fun K => (exL1 K).all id) (HandSHeadRun.getT x)) = some (He.valX fnL1 [] w) := by
  kernel_rfl
theorem runO2 (w : World) (os : OsState) : (whX w os).map (fun x => pieceO 1000 faL2 fnL2 tfL2 (fun K => (exL2 K).all id) (HandSHeadRun.getT x)) = some (He.valX fnL2 [] w) := by
  kernel_rfl
theorem runX (w : World) : HandSHeadRun.RunEq R0 (PySem.W.view R0.prog [49]) hkX obX 6000 looseL w := fun os => map_three (runL w os) (runG w os) (map_join (runO1 w os) (runO2 w os))
end AK
set_option Elab.async false
set_option linter.all false
set_option maxRecDepth 100000
namespace AK
open PySem PySem.Spec PyProof.Rows L2
/-! ### readings that simp can go through: a list, a tuple by what H itself holds -/
section
variable {X : Cx}
theorem OpR.imp {f : Value → Value → Sem Value} {r r' : R2} (h : OpR X f r) (i : ∀ x y H Q, r' x y H Q → r x y H Q) : OpR X f r' := fun pins s σ H x y v u Q I rx ry q => h pins s σ H x y v u Q I rx ry (i _ _ _ _ q)
theorem IxR.imp {r r' : R2} (h : IxR X r) (i : ∀ x y H Q, r' x y H Q → r x y H Q) : IxR X r' := fun ve se pins s σ H x y v u Q I rx ry q => h ve se pins s σ H x y v u Q I rx ry (i _ _ _ _ q)
theorem CallR.imp {f : Value} {r r' : List V → Hp → VK → Prop} (h : CallR X f r) (i : ∀ xs H Q, r' xs H Q → r xs H Q) : CallR X f r' := fun pins s σ H xs us Q I r q => h pins s σ H xs us Q I r (i _ _ _ q)
def hIx : R2 := fun x y H Q => ∃ p xs i v, x = .ref p ∧ y = .int i ∧ H p = some (.lst xs) ∧ atI xs i = some v ∧ Q v H
def hIxT : R2 := fun x y H Q => ∃ p xs i v, x = .ref p ∧ y = .int i ∧ H p = some (.tup xs) ∧ atI xs i = some v ∧ Q v H
theorem ixH : IxR X hIx := IxR.imp ix_list fun x y H Q ⟨p, xs, i, v, h1, h2, h3, h4, h5⟩ => ⟨p, xs, i, v, h1, h2, SqL.of h3, h4, h5⟩
theorem ixHT : IxR X hIxT := IxR.imp ix_tup fun x y H Q ⟨p, xs, i, v, h1, h2, h3, h4, h5⟩ => ⟨p, xs, i, v, h1, h2, SqT.of h3, h4, h5⟩
def hSet : V → V → V → Hp → (Hp → Prop) → Prop := fun o i v H Q => ∃ p xs k, o = .ref p ∧ i = .int k ∧ H p = some (.lst xs) ∧ 0 ≤ k ∧ k.toNat < xs.length ∧ Q (upd H p (.lst (xs.set k.toNat v)))
theorem setH : PSet X hSet := by
  intro pins s σ H o i v u1 u2 u3 Q I r1 r2 r3 ⟨p, xs, k, h1, h2, h3, h4, h5, h6⟩
  exact set_list pins s σ H o i v u1 u2 u3 Q I r1 r2 r3 ⟨p, xs, k, k.toNat, h1, h2, h3, by unfold ixN; rw [if_pos h4, if_pos (by omega)], h6⟩
def hInt : List V → Hp → VK → Prop := fun xs H Q => ∃ i, xs = [.int i] ∧ Q (.int i) H
theorem callInt : CallR X (.type "int") hInt := CallR.imp call_int1 fun _ _ _ h => .inl h
def hIntB : List V → Hp → VK → Prop := fun xs H Q => ∃ k, xs = [.bl k] ∧ Q (.int (if k then 1 else 0)) H
theorem callIntB : CallR X (.type "int") hIntB := CallR.imp call_int1 fun _ _ _ h => .inr h
def hLen : List V → Hp → VK → Prop := fun xs H Q => ∃ p ys, xs = [.ref p] ∧ H p = some (.lst ys) ∧ Q (.int ys.length) H
def hLenT : List V → Hp → VK → Prop := fun xs H Q => ∃ p ys, xs = [.ref p] ∧ H p = some (.tup ys) ∧ Q (.int ys.length) H
theorem callLen : CallR X (.builtin "len") hLen := CallR.imp call_len_seq fun _ _ _ ⟨p, ys, h1, h2, h3⟩ => ⟨p, ys, h1, .inl (SqL.of h2), h3⟩
theorem callLenT : CallR X (.builtin "len") hLenT := CallR.imp call_len_seq fun _ _ _ ⟨p, ys, h1, h2, h3⟩ => ⟨p, ys, h1, .inr (SqT.of h2), h3⟩
theorem powH : OpR X (binaryOp .Pow) (rI (fun i j => 0 ≤ j ∧ j ≤ 1000000 ∧ -18446744073709551616 < i ∧ i < 18446744073709551616) fun i j => .int (i ^ j.toNat)) := OpR.imp op_pow fun x y H Q ⟨i, j, h1, h2, h3, h4⟩ => ⟨i, j, h1, h2, ⟨h3.1, h3.2.1, by have := h3.2.2; show i.natAbs < 18446744073709551616; omega⟩, h4⟩
end
/-! ### small facts -/
theorem atI_0 {α : Type} {a : α} {l : List α} : atI (a :: l) 0 = some a := atI_nat (j := 0) rfl
theorem atI_1 {α : Type} {a b : α} {l : List α} : atI (a :: b :: l) 1 = some b := atI_nat (j := 1) rfl
theorem atI_2 {α : Type} {a b c : α} {l : List α} : atI (a :: b :: c :: l) 2 = some c := atI_nat (j := 2) rfl
theorem atI_3 {α : Type} {a b c d : α} {l : List α} : atI (a :: b :: c :: d :: l) 3 = some d := atI_nat (j := 3) rfl
theorem set_1 {α : Type} {a b v : α} {l : List α} : (a :: b :: l).set 1 v = a :: v :: l := rfl
theorem set_2 {α : Type} {a b c v : α} {l : List α} : (a :: b :: c :: l).set 2 v = a :: b :: v :: l := rfl
theorem set_3 {α : Type} {a b c d v : α} {l : List α} : (a :: b :: c :: d :: l).set 3 v = a :: b :: c :: v :: l := rfl
theorem take_s {α : Type} {l : List α} {i : Nat} {x : α} (h : l[i]? = some x) : l.take (i + 1) = l.take i ++ [x] := by
  rw [List.take_add_one, h]
  rfl
theorem map_at {α β : Type} {f : α → β} {l : List α} {i : Nat} {y : β} (h : (l.map f)[i]? = some y) : ∃ x, l[i]? = some x ∧ y = f x := by
  rw [List.getElem?_map] at h
  cases e : l[i]? with
  | none => rw [e] at h; cases h
  | some x => rw [e] at h; exact ⟨x, rfl, (Option.some.inj h).symm⟩
theorem same_new {H : Hp} {p : Addr} {o : HO} (h : H p = none) : Same H (upd H p o) := fun b x e => by
  rw [upd_ne (ne_of_none e h)]
  exact e
theorem same_out {G H : Hp} {p : Addr} {o : HO} (h : Same G H) (n : G p = none) : Same G (upd H p o) := fun b x e => by
  rw [upd_ne (ne_of_none e n)]
  exact h b x e
/-- all but what stands at p is as it was -/
def But (p : Addr) (H H' : Hp) : Prop := ∀ b, b ≠ p → H' b = H b
theorem But.refl (p : Addr) (H : Hp) : But p H H := fun _ _ => rfl
theorem But.trans {p : Addr} {H H1 H2 : Hp} (a : But p H H1) (b : But p H1 H2) : But p H H2 := fun c h => (b c h).trans (a c h)
theorem But.upd {p : Addr} {H : Hp} {o : HO} : But p H (upd H p o) := fun _ h => upd_ne h
theorem But.same {p : Addr} {G H H' : Hp} (b : But p H H') (h : Same G H) (n : G p = none) : Same G H' := fun c x e => by
  rw [b c (ne_of_none e n)]
  exact h c x e
end AK
set_option Elab.async false
set_option linter.all false
set_option maxRecDepth 100000
set_option maxHeartbeats 4000000
namespace AK
open PySem PySem.Spec PyProof.Rows L2 GenW
/-! ### tuple(tuple(x) for x in rows): the generator handed to tuple, turn by turn -/
/-- what is fixed while the generator lives: base: what never changes; I its iterator, C its frame, S the list that is filled, a itself -/
structure TgC where
  P : Program
  w : World
  fs : List Addr
  base : Heap
  H0 : Hp
  sc : Shared
  I : Addr
  C : Addr
  S : Addr
  a : Addr
  g : Nat
  hI : base.objs.size ≤ I
  hC : sc.heap.objs.size ≤ C
  hS : sc.heap.objs.size ≤ S
  ha : sc.heap.objs.size ≤ a
  hb : base.objs.size ≤ sc.heap.objs.size
  hIs : I < sc.heap.objs.size
  hCS : C ≠ S
  hCa : C ≠ a
  hSa : S ≠ a
  hst : cStatics < base.objs.size
/-- .. as it stands behind i turns: bs are the tuples handed out -/
structure TgM (T : TgC) (bs : List Addr) (H : Hp) (s : Shared) : Prop where
  os : s.os = T.sc.os
  bare : AllBare s.gens
  lim : s.heap.NoLimit
  gen : s.heap.IsGen T.a T.g
  un : Un T.fs [T.I] T.H0 H T.sc.heap s.heap
  ok : HOk T.P T.w H s.heap
  fr : ∃ m, s.heap.Ns T.C m
  ls : ∃ (acc : Array Value) (c : Nat), s.heap.get? T.S = some (lstObj acc c) ∧ Vals (bs.map V.ref) acc.toList
  nI : H T.I = none
  nC : H T.C = none
  nS : H T.S = none
  na : H T.a = none
  le : Same T.H0 H
  bk : ∀ b o, T.base.get? b = some o → s.heap.get? b = some o
theorem hok_of {P : Program} {w : World} {H : Hp} {h h' : Heap} (x : HOk P w H h) (k : ∀ b u, H b ≠ none → h.get? b = some u → h'.get? b = some u) : HOk P w H h' := by
  intro b o e
  refine (x b o e).stay (fun c u hc q => k c u ?_ q) (fun _ q => q) (fun _ _ q => q)
  rcases hc with z | z
  · rw [z, e]; exact fun z => nomatch z
  · rw [z]; exact fun z => nomatch z
theorem lim_of {h h' : Heap} (l : h.NoLimit) (k : ∀ o, h.get? cStatics = some o → h'.get? cStatics = some o) : h'.NoLimit := by
  obtain ⟨mc, n1, n2⟩ := l
  exact ⟨mc, n1.at' k, n2⟩
/-- all but the iterator and the frame is kept (new things may have been laid) -/
theorem TgM.move {T : TgC} {bs : List Addr} {H : Hp} {s : Shared} (M : TgM T bs H s) {h' : Heap} {tk : Nat} (k : ∀ b o, b ≠ T.I → b ≠ T.C → s.heap.get? b = some o → h'.get? b = some o) (f : ∃ m, h'.Ns T.C m) : TgM T bs H { s with heap := h', toks := tk } := by
  have neO : ∀ {b o}, T.sc.heap.get? b = some o → b ≠ T.C := fun {b o} e => Nat.ne_of_lt (Nat.lt_of_lt_of_le (Heap.lt_size e) T.hC)
  have hsI : T.S ≠ T.I := fun z => by have h1 := T.hS; have h2 := T.hIs; rw [z] at h1; exact absurd (Nat.lt_of_lt_of_le h2 h1) (Nat.lt_irrefl _)
  have haI : T.a ≠ T.I := fun z => by have h1 := T.ha; have h2 := T.hIs; rw [z] at h1; exact absurd (Nat.lt_of_lt_of_le h2 h1) (Nat.lt_irrefl _)
  have big : ∀ {b o}, T.base.get? b = some o → b ≠ T.I ∧ b ≠ T.C := fun {b o} e => by
    have h1 := Heap.lt_size e
    exact ⟨Nat.ne_of_lt (Nat.lt_of_lt_of_le h1 T.hI), Nat.ne_of_lt (Nat.lt_of_lt_of_le h1 (Nat.le_trans T.hb T.hC))⟩
  obtain ⟨acc, c, e1, e2⟩ := M.ls
  obtain ⟨og, g1, g2, g3, g4⟩ := M.gen
  have u := M.un
  refine ⟨M.os, M.bare, ?_, ⟨og, g1, g2, k _ _ haI (Ne.symm T.hCa) g3, g4⟩, ⟨?_, ?_, u.free, ?_, u.tups, u.frzs, u.tbls⟩, ?_, f, ⟨acc, c, k _ _ hsI (Ne.symm T.hCS) e1, e2⟩, M.nI, M.nC, M.nS, M.na, M.le, fun b o e => k b o (big e).1 (big e).2 (M.bk b o e)⟩
  · refine lim_of M.lim fun o e => k _ o ?_ ?_ e
    · exact Nat.ne_of_lt (Nat.lt_of_lt_of_le T.hst T.hI)
    · exact Nat.ne_of_lt (Nat.lt_of_lt_of_le T.hst (Nat.le_trans T.hb T.hC))
  · intro b o q n x1 x2
    exact k b o (fun z => x2 (by rw [z]; exact List.mem_singleton.mpr rfl)) (neO q) (u.keep b o q n x1 x2)
  · intro b o q n x1 x2
    obtain ⟨sl, e⟩ := u.slot b o q n x1 x2
    exact ⟨sl, k b _ (fun z => x2 (by rw [z]; exact List.mem_singleton.mpr rfl)) (neO q) e⟩
  · intro b o q x2
    obtain ⟨o', e⟩ := u.there b o q x2
    exact ⟨o', k b _ (fun z => x2 (by rw [z]; exact List.mem_singleton.mpr rfl)) (neO q) e⟩
  · refine hok_of M.ok fun b v hb e => k b v (fun z => hb (by rw [z]; exact M.nI)) (fun z => hb (by rw [z]; exact M.nC)) e
/-- a new tuple is laid -/
theorem TgM.laid {T : TgC} {bs : List Addr} {H : Hp} {s : Shared} (M : TgM T bs H s) {row : List V} {its : List Value} (r : Vals row its) (hz : row.length ≤ sizeLine) :
    H s.heap.objs.size = none ∧ TgM T bs (upd H s.heap.objs.size (.tup row)) { s with heap := s.heap.push { cls := .type "tuple", data := .seq its.toArray } } := by
  have hn : H s.heap.objs.size = none := M.ok.fresh (Nat.le_refl _)
  have kp : ∀ b o, s.heap.get? b = some o → (s.heap.push { cls := .type "tuple", data := .seq its.toArray }).get? b = some o := fun b o e => Heap.get?_push_of_some _ e
  have M1 := M.move (tk := s.toks) (h' := s.heap.push { cls := .type "tuple", data := .seq its.toArray }) (fun b o _ _ e => kp b o e) (by obtain ⟨m, hm⟩ := M.fr; exact ⟨m, hm.keeps kp⟩)
  obtain ⟨acc, c, e1, e2⟩ := M.ls
  obtain ⟨m, om, es, ep, em, _⟩ := M.fr
  obtain ⟨og, _, _, g3, _⟩ := M.gen
  have sc_lt : T.sc.heap.objs.size ≤ s.heap.objs.size := Nat.le_of_lt (Nat.lt_of_le_of_lt T.hS (Heap.lt_size e1))
  have ne : ∀ {b o}, s.heap.get? b = some o → b ≠ s.heap.objs.size := fun {b o} e => Nat.ne_of_lt (Heap.lt_size e)
  have u := M1.un
  refine ⟨hn, M1.os, M1.bare, M1.lim, M1.gen, ⟨u.keep, u.slot, ?_, u.there, ?_, ?_, ?_⟩, M.ok.laid kp (Nat.le_refl _) ⟨hz, its, r, IsTup.new _ _⟩, M1.fr, M1.ls, ?_, ?_, ?_, ?_, ?_, M1.bk⟩
  · intro b o q n x2
    rw [upd_ne (Nat.ne_of_lt (Nat.lt_of_lt_of_le (Heap.lt_size q) sc_lt))]
    exact u.free b o q n x2
  · intro b xs q
    have := u.tups b xs q
    rw [upd_ne (ne_of_none this hn)]; exact this
  · intro b o xs q
    have := u.frzs b o xs q
    rw [upd_ne (ne_of_none this hn)]; exact this
  · intro b ps q
    obtain ⟨more, z⟩ := u.tbls b ps q
    exact ⟨more, by rw [upd_ne (ne_of_none z hn)]; exact z⟩
  · rw [upd_ne (Nat.ne_of_lt (Nat.lt_of_lt_of_le T.hIs sc_lt))]; exact M.nI
  · rw [upd_ne (ne em)]; exact M.nC
  · rw [upd_ne (ne e1)]; exact M.nS
  · rw [upd_ne (ne g3)]; exact M.na
  · intro b o e
    rw [upd_ne (ne_of_none (M.le b o e) hn)]
    exact M.le b o e
/-- the list took what was handed out -/
theorem TgM.woken {T : TgC} {bs : List Addr} {H : Hp} {s s' : Shared} {q : Addr} (M : TgM T bs H s) (z : Slept T.S (.ref q) s s') : TgM T (bs ++ [q]) H s' := by
  obtain ⟨z1, z2, z3, z4⟩ := z
  obtain ⟨acc, c, e1, e2⟩ := M.ls
  obtain ⟨c', e3⟩ := z4 acc c e1
  obtain ⟨og, g1, g2, g3, g4⟩ := M.gen
  have u := M.un
  have neS : ∀ {b o}, T.sc.heap.get? b = some o → b ≠ T.S := fun {b o} e => Nat.ne_of_lt (Nat.lt_of_lt_of_le (Heap.lt_size e) T.hS)
  refine ⟨z1.trans M.os, z2, ?_, ⟨og, g1, g2, z3 _ _ (Ne.symm T.hSa) g3, g4⟩, ⟨?_, ?_, u.free, ?_, u.tups, u.frzs, u.tbls⟩, ?_, ?_, ⟨acc.push (.ref q), c', e3, ?_⟩, M.nI, M.nC, M.nS, M.na, M.le, ?_⟩
  · exact lim_of M.lim fun o e => z3 _ o (Nat.ne_of_lt (Nat.lt_of_lt_of_le T.hst (Nat.le_trans T.hb T.hS))) e
  · exact fun b o q n x1 x2 => z3 b o (neS q) (u.keep b o q n x1 x2)
  · intro b o q n x1 x2
    obtain ⟨sl, e⟩ := u.slot b o q n x1 x2
    exact ⟨sl, z3 b _ (neS q) e⟩
  · intro b o q x2
    obtain ⟨o', e⟩ := u.there b o q x2
    exact ⟨o', z3 b _ (neS q) e⟩
  · exact hok_of M.ok fun b v hb e => z3 b v (fun y => hb (by rw [y]; exact M.nS)) e
  · obtain ⟨m, hm⟩ := M.fr
    exact ⟨m, hm.at' fun o e => z3 _ o T.hCS e⟩
  · rw [Array.toList_push, List.map_append]
    exact e2.append (.cons rfl .nil)
  · intro b o e
    exact z3 b o (Nat.ne_of_lt (Nat.lt_of_lt_of_le (Heap.lt_size e) (Nat.le_trans T.hb T.hS))) (M.bk b o e)
end AK
set_option Elab.async false
set_option linter.all false
set_option maxRecDepth 100000
set_option maxHeartbeats 4000000
namespace AK
open PySem PySem.Spec PyProof.Rows L2 GenW
/-- what the element asks of the base: where the builtins stand -/
structure TgB (T : TgC) (mg : Str → Option Value) : Prop where
  glob : T.base.Ns mainGlobals mg
  blt : ∃ mb, T.base.Ns builtinsNs mb ∧ ∀ x : Str, x ≠ "__name__" → mb x = bootBuiltins x
  tup : mg "tuple" = none
theorem tg_elt {T : TgC} {mg : Str → Option Value} (B : TgB T mg) {bs : List Addr} {H : Hp} {s : Shared} (M : TgM T bs H s) {A : Around} {E : Value → Shared → Prop} {cenv : Env} {x : Str} {p1 p2 p3 : Pos} {m : Str → Option Value} {r : Addr} {row : List V}
    (hk : cenv.scope.kind = .function) (hgl : cenv.globals = mainGlobals) (hbl : cenv.builtins = builtinsNs) (hL : cenv.locals = T.C) (hx : cenv.kindOf x = some .local) (ht : cenv.kindOf "tuple" = some .globalImplicit) (hd : (x == ("__debug__" : Str)) = false)
    (hn : s.heap.Ns cenv.locals m) (hm : m x = some (.ref r)) (hr : H r = some (.lst row) ∨ H r = some (.tup row)) :
    wpAny (model T.P T.w) A (eval (.Call (.Name "tuple" p1) [.Name x p2] [] p3) cenv) (fun y s' => ∃ q H', y = .ref q ∧ TgM T bs H' s' ∧ H' q = some (.tup row) ∧ Same H H' ∧ (∀ b o, s.heap.get? b = some o → s'.heap.get? b = some o) ∧ ∃ h' tk, s' = { s with heap := h', toks := tk }) E s := by
  obtain ⟨mb, b1, b2⟩ := B.blt
  refine wpAny_Call_Name_kw ?_
  refine Calls.Name_function_global hk ht (Calls.loadGlobal_builtin (v := .type "tuple") (by rw [hgl]; exact B.glob.keeps M.bk) B.tup (by rw [hbl]; exact b1.keeps M.bk) ((b2 "tuple" (by decide)).trans (by decide +kernel)) ?_) (by decide)
  refine PyProof.Rows.callWith_type1 ?_ (by rfl) (by rfl)
  show wpAny _ _ (spliced ((false, eval (.Name x p2) cenv) :: backTo p3 (starEach [] cenv))) _ _ s
  refine Calls.spliced_cons (wpAny_Name (wpAny_loadName_local hk hx hn hm ?_) hd)
  refine Calls.spliced_nil ?_
  rcases hr with hr | hr
  · obtain ⟨hz, its, n, rv, e⟩ := M.ok r _ hr
    have il : s.heap.IsList r its.toArray := ⟨_, e, rfl, n, rfl⟩
    refine call_tuple_list il (fun h' kp => ?_) (by rw [List.size_toArray, ← rv.length]; exact hz)
    have M1 : TgM T bs H { s with heap := h' } := M.move (tk := s.toks) (fun b o _ _ q => kp b o q) (by obtain ⟨m0, hm0⟩ := M.fr; exact ⟨m0, hm0.keeps kp⟩)
    obtain ⟨nn, M2⟩ := M1.laid rv hz
    exact ⟨_, _, rfl, M2, upd_same, same_new nn, fun b o q => Heap.get?_push_of_some _ (kp b o q), _, s.toks, rfl⟩
  · obtain ⟨hz, its, rv, tp⟩ := M.ok r _ hr
    exact call_tuple_same tp ⟨r, H, rfl, M, hr, fun _ _ q => q, fun _ _ q => q, s.heap, s.toks, rfl⟩
/-- behind the last turn -/
def TgQ (T : TgC) (rows : List (List V)) (ys : List V) (H' : Hp) : Prop := ∃ bs : List Addr, ys = bs.map V.ref ∧ bs.length = rows.length ∧ (∀ (j : Nat) (b : Addr) (row : List V), bs[j]? = some b → rows[j]? = some row → H' b = some (.tup row)) ∧ Same T.H0 H' ∧ H' T.a = none
def tgR (T : TgC) (rows : List (List V)) : GenEnd := fun n s₀ r s1 => r = .ok .next ∧ ∃ bs H', TgM T bs H' s1 ∧ TgQ T rows (bs.map V.ref) H'
def tgY (T : TgC) : Protocol := fun n s₀ v s1 kap => (∃ bs H', n + 1 + bs.length = sizeLine ∧ TgM T bs H' s1) ∧ ∀ s', Slept T.S v s1 s' → kap (.send .none) s'
theorem tg_loop {T : TgC} {mg : Str → Option Value} (B : TgB T mg) {A : Around} {cenv : Env} {x : Str} {px p1 p2 p3 pos : Pos} {iter : Expr} {scope : Scope} {l : Addr} {as : List Addr} {rows : List (List V)} {St₀ : Nat → Heap → Prop} {its : Array Value}
    (hh : A.handled = none) (W : ∀ A' : Around, A'.handled = none → Walks T.P T.w A' T.I [T.I, l] [T.I] its.size (fun i v => its[i]? = some v) St₀)
    (hsz : its.size = rows.length) (hle : rows.length ≤ sizeLine) (hat : ∀ (i : Nat) (v : Value), its[i]? = some v → ∃ (r : Addr) (row : List V), v = .ref r ∧ rows[i]? = some row ∧ (T.H0 r = some (.lst row) ∨ T.H0 r = some (.tup row))) (hl : ∃ o, T.H0 l = some o)
    (hk : cenv.scope.kind = .function) (hgl : cenv.globals = mainGlobals) (hbl : cenv.builtins = builtinsNs) (hL : cenv.locals = T.C) (hx : cenv.kindOf x = some .local) (ht : cenv.kindOf "tuple" = some .globalImplicit) (hd : (x == ("__debug__" : Str)) = false) (hco : cenv.scope.isCoroutine = false) :
    ∀ (k i : Nat) (s₀ s : Shared) (bs : List Addr) (H' : Hp), its.size - i = k → i ≤ its.size → bs.length = i → TgM T bs H' s → St₀ i s.heap → (∀ (j : Nat) (b : Addr) (row : List V), bs[j]? = some b → rows[j]? = some row → H' b = some (.tup row)) →
      Seg (model T.P T.w) A (tgR T rows) (tgY T) (sizeLine - i) s₀ (.compLoop (.GeneratorExp (.Call (.Name "tuple" p1) [.Name x p2] [] p3) [⟨.Name x px, iter, [], 0⟩] scope pos) 0 (.ref T.I) .none cenv)
        ((model T.P T.w).den (.compLoop (.GeneratorExp (.Call (.Name "tuple" p1) [.Name x p2] [] p3) [⟨.Name x px, iter, [], 0⟩] scope pos) 0 (.ref T.I) .none cenv)) [] s := by
  have hh' : (A.over (.compLoop (.GeneratorExp (.Call (.Name "tuple" p1) [.Name x p2] [] p3) [⟨.Name x px, iter, [], 0⟩] scope pos) 0 (.ref T.I) .none cenv) []).handled = none := hh
  have hp : (cenv.scope.kind == .class || (cenv.scope.kind == .module && cenv.locals != cenv.globals)) = false := by rw [hk]; rfl
  have hCI : T.C ≠ T.I := fun z => by have h1 := T.hC; have h2 := T.hIs; rw [z] at h1; exact absurd (Nat.lt_of_lt_of_le h2 h1) (Nat.lt_irrefl _)
  have hlC : ∀ {bs H s}, TgM T bs H s → l ≠ T.C := fun {bs H s} M z => by
    obtain ⟨o, e⟩ := hl
    have := M.le l o e
    rw [z, M.nC] at this
    cases this
  have inI : ∀ {b}, b ≠ T.I → b ∉ [T.I] := fun {b} h z => h (List.mem_singleton.mp z)
  intro k
  induction k with
  | zero =>
    intro i s₀ s bs H' hki hi hlen M hst hrow
    obtain rfl : i = its.size := by omega
    show Seg _ A _ _ _ s₀ _ ((compTurn (.GeneratorExp (.Call (.Name "tuple" p1) [.Name x p2] [] p3) [⟨.Name x px, iter, [], 0⟩] scope pos) 0 (.ref T.I) .none cenv).onRaise (leaving cenv)) [] s
    rw [compTurn_gen, Sem.onRaise_eq_wrap]
    refine seg_bind_wrap (wpAny_standAt (seg_bind_wrap ((W _ hh').done s _ _ hst fun h1 tk1 kp => ?_)))
    have M1 := M.move (tk := tk1) (fun b o e1 _ e => kp b o (inI e1) e) (by obtain ⟨m, hm⟩ := M.fr; exact ⟨m, hm.at' fun o e => kp _ o (inI hCI) e⟩)
    exact seg_end (.ok .next) ⟨rfl, bs, H', M1, bs, rfl, hlen.trans hsz, hrow, M.le, M.na⟩
  | succ k ih =>
    intro i s₀ s bs H' hki hi hlen M hst hrow
    have hlt : i < its.size := by omega
    show Seg _ A _ _ _ s₀ _ ((compTurn (.GeneratorExp (.Call (.Name "tuple" p1) [.Name x p2] [] p3) [⟨.Name x px, iter, [], 0⟩] scope pos) 0 (.ref T.I) .none cenv).onRaise (leaving cenv)) [] s
    rw [compTurn_gen, Sem.onRaise_eq_wrap]
    refine seg_bind_wrap (wpAny_standAt (seg_bind_wrap ((W _ hh').item i s _ _ hlt hst fun v h1 tk1 hv st1 kp => ?_)))
    obtain ⟨r, row, rfl, hrw, hH0⟩ := hat i v hv
    obtain ⟨m, hm⟩ := M.fr
    have n1 : h1.Ns T.C m := hm.at' fun o e => kp _ o (inI hCI) e
    have M1 := M.move (tk := tk1) (fun b o e1 _ e => kp b o (inI e1) e) ⟨m, n1⟩
    refine seg_bind_wrap (wpAny_of_eq (rfl : letOwnedTupleGo (.Name x px) (.ref T.I) (.ref r) = pure ()) ?_)
    refine seg_bind_wrap (wpAny_assign_Name (wpAny_storeName_local hx (by rw [hL]; exact n1) (fun h2 n2 sb => ?_) hp))
    rw [hL] at n2 sb
    have M2 := M1.move (tk := tk1 + 1) (h' := h2) (fun b o _ e2 e => sb.extBut b o e2 e) ⟨_, n2⟩
    have st2 : St₀ (i + 1) h2 := (W A hh).frame _ _ _ st1 fun b hb o e => sb.extBut b o (by
      rcases List.mem_cons.mp hb with z | z
      · rw [z]; exact Ne.symm hCI
      · rw [List.mem_singleton.mp z]; exact hlC M) e
    simp only [List.forIn_nil]
    refine seg_bind_wrap (wpAny_pure ?_)
    simp only [if_true]
    have hy : ∀ v, yieldOut cenv v = yieldValue v := fun v => by simp only [yieldOut, hco, Bool.false_eq_true, if_false]
    simp only [hy]
    rw [Sem.bind_eq_wrap', Sem.bind_eq_wrap', Sem.wrap_wrap, Sem.wrap_wrap]
    refine seg_wrap (wpAny_mono (tg_elt B M2 (x := x) (r := r) (row := row) hk hgl hbl hL hx ht hd (by rw [hL]; exact n2) (by simp) (hH0.imp (M.le r _) (M.le r _))) (fun y s3 h3 => ?_) fun _ _ z => z)
    obtain ⟨q, H3, rfl, M3, hq, le3, kp3, h4, tk4, rfl⟩ := h3
    have hne : sizeLine - i = (sizeLine - (i + 1)) + 1 := by omega
    rw [hne]
    refine seg_at (seg_yield rfl rfl rfl ⟨⟨bs, H3, by omega, M3⟩, fun s5 sl => ?_⟩)
    have M5 := M3.woken sl
    refine seg_again rfl (ih (i + 1) s5 s5 (bs ++ [q]) H3 (by omega) hlt (by rw [List.length_append, hlen]; rfl) M5 ?_ ?_)
    · obtain ⟨_, _, z3, _⟩ := sl
      refine (W A hh).frame _ _ _ st2 fun b hb o e => z3 b o ?_ (kp3 b o e)
      rcases List.mem_cons.mp hb with z | z
      · rw [z]; exact fun y => by have h1 := T.hS; have h2 := T.hIs; rw [← y] at h1; exact absurd (Nat.lt_of_lt_of_le h2 h1) (Nat.lt_irrefl _)
      · rw [List.mem_singleton.mp z]
        obtain ⟨o, e⟩ := hl
        exact fun y => by have := M.le l o e; rw [y, M.nS] at this; cases this
    · intro j b row' hj hr'
      by_cases hji : j < bs.length
      · rw [List.getElem?_append_left hji] at hj
        exact le3 _ _ (hrow j b row' hj hr')
      · rw [List.getElem?_append_right (by omega)] at hj
        have hj0 : j - bs.length = 0 := by
          cases e : j - bs.length with
          | zero => rfl
          | succ n => rw [e] at hj; cases hj
        rw [hj0] at hj
        obtain rfl : q = b := Option.some.inj hj
        obtain rfl : j = i := by omega
        rw [hrw] at hr'
        obtain rfl := Option.some.inj hr'
        exact hq
end AK
set_option Elab.async false
set_option linter.all false
set_option maxRecDepth 100000
set_option maxHeartbeats 4000000
namespace AK
open PySem PySem.Spec PyProof.Rows L2 GenW
theorem TgM.gens {T : TgC} {bs : List Addr} {H : Hp} {s : Shared} (M : TgM T bs H s) {G : Array GenState} (hG : AllBare G) : TgM T bs H { s with gens := G } :=
  ⟨M.os, hG, M.lim, M.gen, M.un, M.ok, M.fr, M.ls, M.nI, M.nC, M.nS, M.na, M.le, M.bk⟩
theorem TgM.kept {T : TgC} {bs : List Addr} {H : Hp} {s : Shared} (M : TgM T bs H s) {h' : Heap} {tk : Nat} (k : ∀ b o, s.heap.get? b = some o → h'.get? b = some o) : TgM T bs H { s with heap := h', toks := tk } :=
  M.move (fun b o _ _ e => k b o e) (by obtain ⟨m, hm⟩ := M.fr; exact ⟨m, hm.keeps k⟩)
theorem TgM.len {T : TgC} {bs : List Addr} {H : Hp} {s : Shared} {acc : Array Value} (r : Vals (bs.map V.ref) acc.toList) : acc.size = bs.length := by
  have h := r.length
  rw [List.length_map] at h
  rw [← Array.length_toList]
  exact h.symm
theorem tg_drain {T : TgC} {rows : List (List V)} {A : Around} {Rr : Result → Shared → Prop} {res : Value} (hh : A.handled = none) (hd : A.depth < recursionLimit)
    (hend : ∀ s' bs H', TgM T bs H' s' → TgQ T rows (bs.map V.ref) H' → Rr (.ok (.ret res)) s') :
    ∀ (m : Nat) (s : Shared), s.heap.IsGen T.a T.g → s.heap.NoLimit → (∃ gs, s.gens[T.g]? = some gs ∧ gs.Goes (model T.P T.w) A.in1.in1 (tgR T rows) (tgY T) m (.send .none) (s.setGen T.g .running)) →
      codeAny (model T.P T.w) A (.builtin "list.extend.loop" ⟨[.ref T.S, .ref T.a, res], []⟩) Rr s := by
  intro m
  induction m with
  | zero =>
    intro s hg hl ⟨gs, hgs, hgo⟩
    refine codeAny_builtin F.entry_extend_loop ?_
    rw [Around.under_plainId F.plain_extend_loop _]
    show wpAny _ A.in1 (pyNext (.ref T.a) >>= _) _ _ s
    refine wpAny_bind (wpAny_pyNext_genexpQ (A := A.in1) (P := fun _ _ s1 => ∃ bs H', TgM T bs H' s1 ∧ TgQ T rows (bs.map V.ref) H') hh hl hd hg hgs hgo (fun v s1 gs' hb hv => ?_) (fun s1 hp h' hk => ?_))
    · obtain ⟨⟨bs, H', _, M⟩, go⟩ := hv
      obtain ⟨acc, c, e1, _⟩ := M.ls
      exact (go _ (Slept.push e1 M.bare)).elim
    · obtain ⟨bs, H', M, q⟩ := hp
      exact wpAny_pure (hend _ bs H' ((M.kept hk (tk := s1.toks)).gens (allBare_setGen M.bare rfl)) q)
  | succ m ih =>
    intro s hg hl ⟨gs, hgs, hgo⟩
    have hgl : T.g < s.gens.size := (Array.getElem?_eq_some_iff.mp hgs).1
    refine codeAny_builtin F.entry_extend_loop ?_
    rw [Around.under_plainId F.plain_extend_loop _]
    show wpAny _ A.in1 (pyNext (.ref T.a) >>= _) _ _ s
    refine wpAny_bind (wpAny_gsz (n := T.g + 1) hgl (wpAny_pyNext_genexpQ (A := A.in1) (P := fun _ _ s1 => ∃ bs H', TgM T bs H' s1 ∧ TgQ T rows (bs.map V.ref) H') hh hl hd hg hgs hgo (fun v s1 gs' hb hv => ?_) (fun s1 hp h' hk => ?_)))
    · intro hsz
      obtain ⟨⟨bs, H', hn, M⟩, go⟩ := hv
      obtain ⟨acc, c, e1, e2⟩ := M.ls
      have hacc : acc.size = bs.length := TgM.len (T := T) (H := H') (s := s1) e2
      have hs1 : T.g < s1.gens.size := by
        have q : (s1.setGen T.g gs').gens.size = s1.gens.size := setGen_size _ _ _
        have hsz' : T.g + 1 ≤ (s1.setGen T.g gs').gens.size := hsz
        omega
      show wpAny _ A.in1 (updateSeq T.S (·.push v) >>= _) _ _ _
      refine wpAny_bind (wpAny_updateSeq (s := s1.setGen T.g gs') e1 rfl (wpAny_pure ⟨plainId_quiet F.plain_extend_loop _, ?_⟩) (by omega) (by show (acc.push v).size ≤ sizeLine + 1; rw [Array.size_push]; omega))
      have kp : ∀ b o, b ≠ T.S → s1.heap.get? b = some o → (s1.heap.update T.S (Obj.mapSeq (·.push v))).get? b = some o := fun b o hb e => (Heap.get?_update_other _ _ (Ne.symm hb)).trans e
      refine ih { s1.setGen T.g gs' with heap := s1.heap.update T.S (Obj.mapSeq (·.push v)) } ?_ ?_ ⟨gs', setGen_at hs1, ?_⟩
      · obtain ⟨og, g1, g2, g3, g4⟩ := M.gen
        exact ⟨og, g1, g2, kp _ _ (Ne.symm T.hSa) g3, g4⟩
      · exact lim_of M.lim fun o e => kp _ o (Nat.ne_of_lt (Nat.lt_of_lt_of_le T.hst (Nat.le_trans T.hb T.hS))) e
      · exact go _ (Slept.push e1 (allBare_setGen (s := s1.setGen T.g gs') (allBare_setGen M.bare hb) rfl))
    · intro hsz
      obtain ⟨bs, H', M, q⟩ := hp
      exact wpAny_pure (hend _ bs H' ((M.kept hk (tk := s1.toks)).gens (allBare_setGen M.bare rfl)) q)
end AK
set_option Elab.async false
set_option linter.all false
set_option maxRecDepth 100000
set_option maxHeartbeats 4000000
namespace AK
open PySem PySem.Spec PyProof.Rows L2 GenW
/-- the generator at a, not begun; W: what it is woken to, whatever list S is to be filled -/
def TgWake (P : Program) (w : World) (A : Around) (a : Addr) (g : Nat) (rows : List (List V)) (s : Shared) (Z : Array Value → Nat → Shared → Prop) : Prop :=
  ∀ (S : Addr) (s2 : Shared), s.heap.objs.size ≤ S → (∀ b o, s.heap.get? b = some o → s2.heap.get? b = some o) → (∃ c, s2.heap.get? S = some (lstObj #[] c)) → s2.os = s.os → s2.gens = s.gens →
    ∃ T : TgC, T.P = P ∧ T.w = w ∧ T.S = S ∧ T.a = a ∧ T.g = g ∧ (∃ gs, s2.gens[g]? = some gs ∧ gs.Goes (model P w) A (tgR T rows) (tgY T) sizeLine (.send .none) (s2.setGen g .running)) ∧
      ∀ s' bs H' acc c, TgM T bs H' s' → TgQ T rows (bs.map V.ref) H' → s'.heap.get? S = some (lstObj acc c) → Vals (bs.map V.ref) acc.toList → Z acc c s'
section
variable {P : Program} {w : World} {A : Around} {E : Value → Shared → Prop} {s : Shared}
theorem tg_collect {Q : List Value → Shared → Prop} {a : Addr} {g : Nat} {rows : List (List V)} (hh : A.handled = none) (hd : A.depth < recursionLimit) (hg : s.heap.IsGen a g) (hl : s.heap.NoLimit)
    (W : TgWake P w A.in1.in1 a g rows s (fun acc _ s' => Q acc.toList s')) : wpAny (model P w) A (collect (.ref a)) Q E s := by
  have ha : a < s.heap.objs.size := by obtain ⟨_, _, _, e, _⟩ := hg; exact Heap.lt_size e
  have hSa : s.heap.objs.size ≠ a := Nat.ne_of_gt ha
  have hSc : s.heap.objs.size ≠ cStatics := by obtain ⟨_, hn, _⟩ := hl; exact Nat.ne_of_gt hn.lt
  unfold collect; refine wpAny_bind (wpAny_runValue (codeAny_builtin F.entry_proto_collect ?_)); rw [Around.under_plainId F.plain_proto_collect _]
  show wpAny _ A.in1 (newList [] >>= fun q => again (.builtin "list.__iadd__" ⟨[q, .ref a], []⟩)) _ _ s
  refine wpAny_bind (wpAny_newObj_type ?_); refine wpAny_pure ⟨plainId_quiet F.plain_list_iadd _, codeAny_builtin F.entry_list_iadd ?_⟩; rw [Around.under_plainId F.plain_list_iadd _]
  have kp : ∀ b o, s.heap.get? b = some o → (s.heap.push { cls := .type "list", data := .seq ([] : List Value).toArray }).get? b = some o := fun b o e => Heap.get?_push_of_some _ e
  have ty : ∀ {h : Heap}, (∀ b o, s.heap.get? b = some o → h.get? b = some o) → h.IsGen a g := fun {h} q => hg.keeps q
  show wpAny _ A.in1 (Builtin.List.listExtendWith (.ref s.heap.objs.size) (.ref a) (.ref s.heap.objs.size)) _ _ _
  unfold Builtin.List.listExtendWith; refine wpAny_bind (wpAny_typeOf (Heap.IsGen.typeIs (s := { s with heap := _ }) (ty kp)) ?_)
  have d1 : Builtin.List.listSameRef (.ref s.heap.objs.size) (.ref a) = false := by simp [Builtin.List.listSameRef, hSa]
  have d2 : (Value.type "generator" == Value.type "list") = false ∧ (Value.type "generator" == Value.type "tuple") = false := ⟨by decide, by decide⟩
  simp only [d1, d2.1, d2.2, Bool.or_false, Bool.false_eq_true, if_false]
  refine wpAny_bind (wpAny_pyIter_gen (s := { s with heap := _ }) (ty kp) (wpAny_bind (wpAny_holding ?_)))
  unfold Builtin.List.listLengthHint; refine wpAny_bind (wpAny_specialOf (Heap.IsGen.typeIs (s := { s with heap := _ }) (ty kp)) F.gen_no_len ?_)
  show wpAny _ A.in1 (specialOf (Value.ref a) (Str.ofString "__length_hint__") >>= _) _ _ _
  refine wpAny_bind (wpAny_specialOf (Heap.IsGen.typeIs (s := { s with heap := _ }) (ty kp)) F.gen_no_hint (wpAny_pure ?_))
  show wpAny _ A.in1 (rule "list.extend.makes-room" >>= fun _ => Builtin.List.listTouch (.ref s.heap.objs.size) >>= fun _ => again (.builtin "list.extend.loop" ⟨[.ref s.heap.objs.size, .ref a, .ref s.heap.objs.size], []⟩)) _ _ _
  refine wpAny_bind (wpAny_rule (wpAny_bind ?_))
  have e1 : (s.heap.push { cls := .type "list", data := .seq ([] : List Value).toArray }).get? s.heap.objs.size = some { cls := .type "list", data := .seq ([] : List Value).toArray } := Heap.get?_push_size _ rfl
  show wpAny _ A.in1 (updateSeq s.heap.objs.size (·.push .none) >>= fun _ => updateSeq s.heap.objs.size (·.pop)) _ _ _
  refine wpAny_bind (wpAny_updateSeq e1 rfl ?_)
  have e2 := Heap.get?_update_self (Obj.mapSeq (·.push Value.none)) e1 rfl
  refine wpAny_updateSeq e2 rfl ?_
  have e3 := Heap.get?_update_self (Obj.mapSeq (·.pop)) e2 rfl
  have kp3 : ∀ b o, s.heap.get? b = some o → (((s.heap.push { cls := .type "list", data := .seq ([] : List Value).toArray }).update s.heap.objs.size (Obj.mapSeq (·.push Value.none))).update s.heap.objs.size (Obj.mapSeq (·.pop))).get? b = some o := fun b o e => by
    have hb : s.heap.objs.size ≠ b := Nat.ne_of_gt (Heap.lt_size e)
    exact (Heap.get?_update_other _ _ hb).trans ((Heap.get?_update_other _ _ hb).trans (kp b o e))
  obtain ⟨T, rfl, rfl, t3, rfl, rfl, go, fin⟩ := W s.heap.objs.size { s with heap := _ } (Nat.le_refl _) kp3 ⟨_, e3⟩ rfl rfl
  refine wpAny_pure ⟨plainId_quiet F.plain_extend_loop _, ?_⟩
  have D : ∀ Rr : Result → Shared → Prop, (∀ s' bs H', TgM T bs H' s' → TgQ T rows (bs.map V.ref) H' → Rr (.ok (.ret (.ref s.heap.objs.size))) s') → codeAny (model T.P T.w) A (.builtin "list.extend.loop" ⟨[.ref T.S, .ref T.a, .ref s.heap.objs.size], []⟩) Rr _ := fun Rr h =>
    tg_drain (T := T) (rows := rows) (A := A) (res := .ref s.heap.objs.size) hh hd h sizeLine { s with heap := _ } (ty kp3) (hl.keeps kp3) go
  rw [t3] at D
  refine D _ fun s' bs H' M q => ?_
  obtain ⟨acc, c, f1, f2⟩ := M.ls
  rw [t3] at f1
  show wpAny _ A (load s.heap.objs.size >>= _) _ _ s'
  exact wpAny_bind (wpAny_load f1 (wpAny_pure (fin s' bs H' acc c M q f1 f2)))
end
end AK
set_option Elab.async false
set_option linter.all false
set_option maxRecDepth 100000
set_option maxHeartbeats 4000000
namespace AK
open PySem PySem.Spec PyProof.Rows L2 GenW
section
variable {P : Program} {w : World} {A : Around} {E : Value → Shared → Prop} {s : Shared}
theorem tg_new {Q : Value → Shared → Prop} {a : Addr} {g : Nat} {rows : List (List V)} (hh : A.handled = none) (hd : A.depth < recursionLimit) (hg : s.heap.IsGen a g) (hl : s.heap.NoLimit)
    (W : TgWake P w A.in1.in1.in1 a g rows s (fun acc _ s' => acc.size ≤ sizeLine ∧ Q (.ref s'.heap.objs.size) { s' with heap := s'.heap.push { cls := .type "tuple", data := .seq acc } })) :
    codeAny (model P w) A (.call (.builtin "tuple.__new__") ⟨[.type "tuple", .ref a], []⟩) (wants Q E) s := by
  refine codeAny_of_tree ?_; show wpAny _ A.in1 (do checkBuiltinCall "tuple.__new__" ⟨[.type "tuple", .ref a], []⟩; again (.builtin "tuple.__new__" ⟨[.type "tuple", .ref a], []⟩)) _ _ s
  refine wpAny_bind (wpAny_of_eq (F.newCall_tuple_1 _) (wpAny_pure ⟨plainId_quiet F.plain_tuple_new _, codeAny_builtin F.entry_tuple_new ?_⟩)); rw [Around.under_plainId F.plain_tuple_new _]
  have z1 := sub_tuple_self
  have z2 := init_tuple_lookup
  have z3 := madeHere_tuple
  have z4 : s.TypeIs (.ref a) "generator" := hg.typeIs
  have C : ∀ (Q' : List Value → Shared → Prop) (E' : Value → Shared → Prop), (∀ acc s', acc.size ≤ sizeLine → Q (.ref s'.heap.objs.size) { s' with heap := s'.heap.push { cls := .type "tuple", data := .seq acc } } → Q' acc.toList s') → wpAny (model P w) A.in1 (collect (.ref a)) Q' E' s := fun Q' E' h =>
    tg_collect (rows := rows) hh (by show A.depth < _; exact hd) hg hl (fun S s2 x1 x2 x3 x4 x5 => by
      obtain ⟨T, t1, t2, t3, t4, t5, go, fin⟩ := W S s2 x1 x2 x3 x4 x5
      exact ⟨T, t1, t2, t3, t4, t5, go, fun s' bs H' acc c y1 y2 y3 y4 => h acc s' (fin s' bs H' acc c y1 y2 y3 y4).1 (fin s' bs H' acc c y1 y2 y3 y4).2⟩)
  wp_walk using wpAny_typeOf z4, C
  intro acc s' hz hq
  show wpAny _ _ (Builtin.Tuple.tupleExact acc.toList.toArray >>= fun v => ret v) _ _ _
  unfold Builtin.Tuple.tupleExact; refine wpAny_bind (wpAny_newObj_type (wpAny_pure ?_) (by show acc.toList.toArray.size ≤ sizeLine; simp only [Array.toArray_toList]; exact hz))
  have e : acc.toList.toArray = acc := by simp
  rw [e]
  exact hq
theorem tg_tuple {Q : Value → Shared → Prop} {a : Addr} {g : Nat} {rows : List (List V)} (hh : A.handled = none) (hd : A.depth < recursionLimit) (hg : s.heap.IsGen a g) (hl : s.heap.NoLimit)
    (W : TgWake P w A.in1.in1.in1.in1 a g rows s (fun acc _ s' => acc.size ≤ sizeLine ∧ Q (.ref s'.heap.objs.size) { s' with heap := s'.heap.push { cls := .type "tuple", data := .seq acc } })) :
    wpAny (model P w) A (call (.type "tuple") [.ref a]) Q E s := by
  refine callType_codes (Q₁ := fun obj s1 => s1.TypeIs obj "tuple" ∧ Q obj s1) F.called_tuple (F.typeCall_tuple_1 _) F.entry_object_init (tg_new (A := A.in1) (rows := rows) hh (by show A.depth < _; exact hd) hg hl fun S s2 x1 x2 x3 x4 x5 => ?_) fun obj s1 h1 => ?_
  · obtain ⟨T, t1, t2, t3, t4, t5, go, fin⟩ := W S s2 x1 x2 x3 x4 x5
    exact ⟨T, t1, t2, t3, t4, t5, go, fun s' bs H' acc c y1 y2 y3 y4 => ⟨(fin s' bs H' acc c y1 y2 y3 y4).1, ⟨_, Heap.get?_push_size _ rfl, rfl⟩, (fin s' bs H' acc c y1 y2 y3 y4).2⟩⟩
  · exact ⟨h1.1, F.args_object_init_2 obj _, object_init_meets F.called_tuple.init.lookup F.called_tuple.made (by decide) P w A.in1 _ s1 ⟨h1.1, rfl, h1.2⟩⟩
end
end AK
set_option Elab.async false
set_option linter.all false
set_option maxRecDepth 100000
set_option maxHeartbeats 4000000
namespace AK
open PySem PySem.Spec PyProof.Rows L2 GenW
/-- a list or a tuple that H holds itself -/
def RowAt (H : Hp) (a : Addr) (row : List V) : Prop := H a = some (.lst row) ∨ H a = some (.tup row)
/-- tuple(tuple(x) for x in te): te a list or tuple of lists or tuples; behind it the def's table at P may have grown -/
def tTupG (P : Addr) (te : TE) : TE := fun σ H Q => te σ H fun v H1 => ∃ (l : Addr) (as : List Addr) (rows : List (List V)), v = .ref l ∧ RowAt H1 l (as.map V.ref) ∧ as.length = rows.length ∧ as.length ≤ sizeLine ∧
  (∀ (i : Nat) (a : Addr) (row : List V), as[i]? = some a → rows[i]? = some row → RowAt H1 a row) ∧ GxR.TabG H1 P ∧
  ∀ (H2 : Hp) (t : Addr) (bs : List Addr), (∀ b o, b ≠ P → H1 b = some o → H2 b = some o) → GxR.TabG H2 P → H1 t = none → H2 t = some (.tup (bs.map V.ref)) → bs.length = rows.length →
    (∀ (i : Nat) (b : Addr) (row : List V), bs[i]? = some b → rows[i]? = some row → H2 b = some (.tup row)) → Q (.ref t) H2
section
variable {X : Cx}
theorem pe_tupG {c P : Addr} {iter : Expr} {x : Str} {px p0 p1 p2 p3 pos gpos : Pos} {scope : Scope} {te : TE} {k : Nat}
    (hr : Room k X.A) (hg : Gl X "tuple") (hm : X.mg "tuple" = none) (TB : GxR.TabB X.base X.mg c P) (hcode : X.env.code = .ref c) (S : GxR.GenS X.env scope x) (hi : PE X iter te) (hgt : scope.names.lookup (Str.ofString "tuple") = some .globalImplicit) (hd : (x == ("__debug__" : Str)) = false)
    (hs : ∀ v, genFold iter X.env v = pure v)
    (he : starEach [.GeneratorExp (.Call (.Name "tuple" p1) [.Name x p2] [] p3) [⟨.Name x px, iter, [], 0⟩] scope gpos] X.env = (false, eval (.GeneratorExp (.Call (.Name "tuple" p1) [.Name x p2] [] p3) [⟨.Name x px, iter, [], 0⟩] scope gpos) X.env) :: starEach [] X.env := by rfl) :
    PE X (.Call (.Name "tuple" p0) [.GeneratorExp (.Call (.Name "tuple" p1) [.Name x p2] [] p3) [⟨.Name x px, iter, [], 0⟩] scope gpos] [] pos) (tTupG P te) := by
  refine ⟨fun pins s σ H Q I h => ?_⟩
  refine wpAny_Call_Name_kw (ld_blt (u := .type "tuple") I hg hm (by decide +kernel) ?_)
  refine PyProof.Rows.callWith_type1 ?_ he (by rfl)
  rw [he]
  show wpAny _ _ (spliced ((false, eval (.GeneratorExp (.Call (.Name "tuple" p1) [.Name x p2] [] p3) [⟨.Name x px, iter, [], 0⟩] scope gpos) X.env) :: backTo pos (starEach [] X.env))) _ _ s
  refine Calls.spliced_cons (wpAny_GeneratorExp_make S.co (closure_ok S.free) S.cell S.dot S.kind hr.depth ?_ hs)
  refine thn (hi.run pins s σ H _ I h) fun xv s1 ⟨v, H1, I1, r1, q1⟩ => ?_
  obtain ⟨l, as, rows, rfl, hl, hlen, hle, hrow, ⟨ps, hP, ht⟩, q1⟩ := q1
  obtain rfl : xv = Value.ref l := r1
  have hPs : s1.heap.get? P = some { cls := .none, data := .fields ps } := I1.hok P _ hP
  have hPlt : P < s1.heap.objs.size := Heap.lt_size hPs
  -- what follows once the iterator o stands at I = s1's size
  have core : ∀ (o : Obj) (its : Array Value) (St₀ : Nat → Heap → Prop), its.size = rows.length → (∀ (i : Nat) (v : Value), its[i]? = some v → ∃ a, v = .ref a ∧ as[i]? = some a) → (∀ A' : Around, A'.handled = none → Walks X.prog X.w A' s1.heap.objs.size [s1.heap.objs.size, l] [s1.heap.objs.size] its.size (fun i v => its[i]? = some v) St₀) →
      (∀ h : Heap, (∀ b u, (b = s1.heap.objs.size ∨ b = l) → (s1.heap.push o).get? b = some u → h.get? b = some u) → St₀ 0 h) →
      (s1.heap.push o).NoLimit ∧ wpAny (model X.prog X.w) X.A (genexprCode X.env gpos (X.env.qual ++ "<genexpr>") scope) (fun code s3 => wpAny (model X.prog X.w) X.A (builtinsFor X.env.globals X.env.builtins) (fun bi s4 =>
        ∀ h', h'.Ns s4.heap.objs.size (fun y => if y = ".0" then some (.ref s1.heap.objs.size) else none) → Heap.SameBut s4.heap.objs.size (s4.heap.push { cls := .type "frame", data := .dict #[] }) h' →
          wpAny (model X.prog X.w) X.A (spliced (backTo pos (starEach [] X.env))) (fun vs s9 => wpAny (model X.prog X.w) X.A (call (.type "tuple") (.ref h'.objs.size :: vs)) (EP X pins σ Q) X.xe s9) X.xe { s4 with
            gens := s4.gens.push (.fresh (.compStart (.GeneratorExp (.Call (.Name "tuple" p1) [.Name x p2] [] p3) [⟨.Name x px, iter, [], 0⟩] scope gpos) 0 (.ref s1.heap.objs.size) .none (genEnv scope (cloFrom X.env.cells scope.names []) s4.heap.objs.size code bi X.env))),
            toks := s4.toks + 1 + 1 + 1,
            heap := h'.push { cls := .type "generator", data := .fields #[.int s4.gens.size 0, .str "<genexpr>" (s4.toks + 1), .str (X.env.qual ++ "<genexpr>") (s4.toks + 1 + 1)] } }) X.xe s3) X.xe { s1 with heap := s1.heap.push o } := by
    intro o its St₀ hsz hat W hst0
    have kp1 : ∀ b u, s1.heap.get? b = some u → (s1.heap.push o).get? b = some u := fun b u e => Heap.get?_push_of_some _ e
    have hP2 : (s1.heap.push o).get? P = some { cls := .none, data := .fields ps } := kp1 _ _ hPs
    have cd : PySem.W.CodeHd (s1.heap.push o) c P := TB.code.keeps fun b u e => kp1 b u (I1.bk b u e)
    have lim2 : (s1.heap.push o).NoLimit := I1.nolimit.push o
    refine ⟨lim2, ?_⟩
    have rest : ∀ (code : Value) (h3 : Heap) (tk : Nat) (ps' : Array Value), Heap.ExtBut P (s1.heap.push o) h3 → (s1.heap.push o).objs.size ≤ h3.objs.size → h3.get? P = some { cls := .none, data := .fields ps' } → (∃ more, ps' = ps ++ more) → TriplesOk ps'.toList →
        wpAny (model X.prog X.w) X.A (builtinsFor X.env.globals X.env.builtins) (fun bi s4 =>
          ∀ h', h'.Ns s4.heap.objs.size (fun y => if y = ".0" then some (.ref s1.heap.objs.size) else none) → Heap.SameBut s4.heap.objs.size (s4.heap.push { cls := .type "frame", data := .dict #[] }) h' →
            wpAny (model X.prog X.w) X.A (spliced (backTo pos (starEach [] X.env))) (fun vs s9 => wpAny (model X.prog X.w) X.A (call (.type "tuple") (.ref h'.objs.size :: vs)) (EP X pins σ Q) X.xe s9) X.xe { s4 with
              gens := s4.gens.push (.fresh (.compStart (.GeneratorExp (.Call (.Name "tuple" p1) [.Name x p2] [] p3) [⟨.Name x px, iter, [], 0⟩] scope gpos) 0 (.ref s1.heap.objs.size) .none (genEnv scope (cloFrom X.env.cells scope.names []) s4.heap.objs.size code bi X.env))),
              toks := s4.toks + 1 + 1 + 1,
              heap := h'.push { cls := .type "generator", data := .fields #[.int s4.gens.size 0, .str "<genexpr>" (s4.toks + 1), .str (X.env.qual ++ "<genexpr>") (s4.toks + 1 + 1)] } }) X.xe { s1 with heap := h3, toks := tk } := by
      intro code h3 tk ps' hx hsz3 hP3 hmore ht3
      obtain ⟨more, rfl⟩ := hmore
      obtain ⟨bm, ob, b1, b2, b3, b4, b5, b6, b7, b8⟩ := TB.bm
      have kp3 : ∀ b u, b ≠ P → s1.heap.get? b = some u → h3.get? b = some u := fun b u hb e => hx b u hb (kp1 b u e)
      have sz1 : (s1.heap.push o).objs.size = s1.heap.objs.size + 1 := Heap.size_push ..
      have hcP : cStatics ≠ P := fun z => by
        obtain ⟨_, ⟨o', es, ep, ho, hd', _⟩, _⟩ := I1.nolimit
        rw [z, hPs] at ho
        cases ho
        cases hd'
      refine wpAny_builtinsFor (m := X.mg) (by rw [I1.ok.glob]; exact ((I1.mod.glob.keeps I1.bk).push o).extBut hx TB.gP) b1 b2 (kp3 _ _ b4 (I1.bk _ _ b5)) b6 b7 b8 ?_
      intro h' hn' sb
      refine Calls.spliced_nil ?_
      have J : Inv X pins σ (upd H1 P (.tbl (ps ++ more))) { s1 with heap := h3, toks := tk } := GxR.inv_tab (g' := s1.gens) (d' := s1.drawn) I1 hP kp3 hP3 I1.bare
      have szh : h'.objs.size = h3.objs.size + 1 := by rw [sb.1, Heap.size_push]
      have kp4 : ∀ b u, h3.get? b = some u → h'.get? b = some u := fun b u e => sb.extBut b u (Nat.ne_of_lt (Heap.lt_size e)) (Heap.get?_push_of_some _ e)
      have lim3 : h3.NoLimit := J.nolimit
      have upd_at : ∀ b, b ≠ P → upd H1 P (.tbl (ps ++ more)) b = H1 b := fun b hb => upd_ne hb
      have neP : ∀ {b u}, H1 b = some u → (∀ q, u ≠ .tbl q) → b ≠ P := fun {b u} e hq z => by
        rw [z, hP] at e
        exact hq ps (Option.some.inj e).symm
      have rowP : ∀ {b row}, RowAt H1 b row → b ≠ P := fun {b row} r => by
        rcases r with r | r
        · exact neP r fun q z => by cases z
        · exact neP r fun q z => by cases z
      have row4 : ∀ {b row}, RowAt H1 b row → RowAt (upd H1 P (.tbl (ps ++ more))) b row := fun {b row} r => by
        have hb := rowP r
        unfold RowAt
        rw [upd_at b hb]
        exact r
      have baseLt : cStatics < X.base.objs.size := by
        obtain ⟨_, hn, _⟩ := I1.ok.mod.nolimit
        exact hn.lt
      have bsz1 : X.base.objs.size ≤ s1.heap.objs.size := Nat.le_trans I1.ok.bsz I1.sz
      refine tg_tuple (rows := rows) hr.hd hr.depth ⟨_, _, _, Heap.get?_push_size _ rfl, rfl, rfl, rfl⟩ ?_ ?_
      · exact lim3.keeps fun b u e => Heap.get?_push_of_some _ (kp4 b u e)
      intro Z s2 x1 x2 x3 x4 x5
      have szG : (h'.push { cls := .type "generator", data := .fields #[.int s1.gens.size 0, .str "<genexpr>" (tk + 1), .str (X.env.qual ++ "<genexpr>") (tk + 1 + 1)] }).objs.size = h3.objs.size + 2 := by rw [Heap.size_push, szh]
      have x1' : h3.objs.size + 2 ≤ Z := by rw [← szG]; exact x1
      have kp5 : ∀ b u, h3.get? b = some u → s2.heap.get? b = some u := fun b u e => x2 b u (Heap.get?_push_of_some _ (kp4 b u e))
      have h31 : s1.heap.objs.size + 1 ≤ h3.objs.size := by rw [← sz1]; exact hsz3
      have y3 : s1.heap.objs.size < h3.objs.size := h31
      have y4 : h3.objs.size < Z := Nat.lt_of_lt_of_le (Nat.lt_add_of_pos_right (by decide)) x1'
      have y5 : h3.objs.size < h'.objs.size := by rw [szh]; exact Nat.lt_succ_self _
      have y6 : h'.objs.size < Z := by rw [szh]; exact x1'
      have y1 : h3.objs.size ≤ Z := Nat.le_of_lt y4
      have y2 : h3.objs.size ≤ h'.objs.size := Nat.le_of_lt y5
      have hg2 : s2.gens[s1.gens.size]? = some (.fresh (.compStart (.GeneratorExp (.Call (.Name "tuple" p1) [.Name x p2] [] p3) [⟨.Name x px, iter, [], 0⟩] scope gpos) 0 (.ref s1.heap.objs.size) .none (genEnv scope (cloFrom X.env.cells scope.names []) h3.objs.size code builtinsNs X.env))) := by
        rw [x5]
        exact Array.getElem?_push_size ..
      let T : TgC := ⟨X.prog, X.w, frs X.stack, X.base, upd H1 P (.tbl (ps ++ more)), { s1 with heap := h3, toks := tk }, s1.heap.objs.size, h3.objs.size, Z, h'.objs.size, s1.gens.size, bsz1, Nat.le_refl _, y1, y2, Nat.le_trans bsz1 (Nat.le_of_lt y3), y3, Nat.ne_of_lt y4, Nat.ne_of_lt y5, Nat.ne_of_gt y6, baseLt⟩
      have B : TgB T X.mg := ⟨I1.mod.glob, I1.mod.blt, hm⟩
      have fresh4 : ∀ b : Addr, h3.objs.size ≤ b → upd H1 P (.tbl (ps ++ more)) b = none := fun b hb => J.hok.fresh hb
      have n1I : upd H1 P (.tbl (ps ++ more)) s1.heap.objs.size = none := by
        rw [upd_at _ (Nat.ne_of_gt hPlt)]
        exact I1.hok.fresh (Nat.le_refl _)
      have bare2 : AllBare s2.gens := by
        rw [x5]
        exact AllBare.push I1.bare rfl
      obtain ⟨c0, hS0⟩ := x3
      have M0 : TgM T [] (upd H1 P (.tbl (ps ++ more))) (s2.setGen s1.gens.size .running) :=
        ⟨x4, allBare_setGen bare2 rfl, lim3.keeps kp5, ⟨_, _, _, x2 _ _ (Heap.get?_push_size _ rfl), rfl, rfl, rfl⟩, Un.kept kp5, J.hok.kept kp5, ⟨_, (hn'.keeps fun b u e => x2 b u (Heap.get?_push_of_some _ e))⟩, ⟨#[], c0, hS0, .nil⟩, n1I, fresh4 _ (Nat.le_refl _), fresh4 _ y1, fresh4 _ y2, Same.refl _, fun b u e => kp5 b u (J.bk b u e)⟩
      refine ⟨T, rfl, rfl, rfl, rfl, rfl, ⟨_, hg2, rfl, ?_⟩, ?_⟩
      · -- the generator's code
        have W' := W
        have hh : X.A.in1.in1.in1.in1.handled = none := hr.hd
        have hh2 : (X.A.in1.in1.in1.in1.over (.compStart (.GeneratorExp (.Call (.Name "tuple" p1) [.Name x p2] [] p3) [⟨.Name x px, iter, [], 0⟩] scope gpos) 0 (.ref s1.heap.objs.size) .none (genEnv scope (cloFrom X.env.cells scope.names []) h3.objs.size code builtinsNs X.env)) []).handled = none := hr.hd
        have st0 : St₀ 0 (s2.setGen s1.gens.size .running).heap := hst0 _ fun b u hb e => kp5 b u (hx b u (by
          rcases hb with z | z
          · rw [z]; exact Nat.ne_of_gt hPlt
          · rw [z]; exact rowP hl) e)
        have loop := fun s0 => tg_loop (T := T) (mg := X.mg) B (A := X.A.in1.in1.in1.in1) (cenv := genEnv scope (cloFrom X.env.cells scope.names []) h3.objs.size code builtinsNs X.env) (x := x) (px := px) (p1 := p1) (p2 := p2) (p3 := p3) (pos := gpos) (iter := iter) (scope := scope) (l := l) (as := as) (rows := rows) (St₀ := St₀) (its := its)
          hh W hsz (by rw [← hlen]; exact hle) (fun i v hv => by
            obtain ⟨a, rfl, ha⟩ := hat i v hv
            have hi : i < rows.length := by rw [← hsz]; exact (Array.getElem?_eq_some_iff.mp hv).1
            exact ⟨a, rows[i], rfl, List.getElem?_eq_getElem hi, row4 (hrow i a _ ha (List.getElem?_eq_getElem hi))⟩)
          (by rcases row4 hl with z | z <;> exact ⟨_, z⟩) S.kind I1.ok.glob rfl rfl S.loc hgt hd S.co its.size 0 s0 (s2.setGen s1.gens.size .running) [] _ (Nat.sub_zero _) (Nat.zero_le _) rfl M0 st0 (fun j b row hj => by simp at hj)
        show Seg _ _ _ _ _ _ _ ((compStart (.GeneratorExp (.Call (.Name "tuple" p1) [.Name x p2] [] p3) [⟨.Name x px, iter, [], 0⟩] scope gpos) 0 (.ref s1.heap.objs.size) .none (genEnv scope (cloFrom X.env.cells scope.names []) h3.objs.size code builtinsNs X.env)).onRaise (leaving (genEnv scope (cloFrom X.env.cells scope.names []) h3.objs.size code builtinsNs X.env))) [] _
        unfold compStart
        rw [Sem.onRaise_eq_wrap]
        show Seg _ _ _ _ _ _ _ ((ask >>= _).wrap _ _ _ _) [] _
        refine seg_bind_wrap (wpAny_askSetting ?_)
        split
        · exact seg_again rfl (loop _)
        · first
            | exact seg_bind_wrap (wpAny_rule (seg_bind_wrap (wpAny_standAt (seg_bind_wrap ((W _ hh2).self 0 _ _ _ st0 (seg_again rfl (loop _)))))))
            | (refine seg_bind_wrap (wpAny_rule ?_); show Seg _ _ _ _ _ _ _ ((standAt iter.pos >>= _).wrap _ _ _ _) [] _; exact seg_bind_wrap (wpAny_standAt (seg_bind_wrap ((W _ hh2).self 0 _ _ _ st0 (seg_again rfl (loop _))))))
      · intro s' bs H' acc cc M q eS rv
        obtain ⟨bs', eb, hbl, hbt, hle', _⟩ := q
        have ebs : bs = bs' := by
          exact (List.map_inj_right fun y z h => V.ref.inj h).mp eb
        subst ebs
        have hacc : acc.size ≤ sizeLine := by
          have h1 : acc.size = bs.length := TgM.len (T := T) (H := H') (s := s') rv
          omega
        refine ⟨hacc, ?_⟩
        have ex : ExOk X pins [s1.heap.objs.size] := fun b hb => by
          rw [List.mem_singleton.mp hb]
          refine ⟨.inr I1.sz, Nat.ne_of_gt I1.lt, fun y c' e => ?_, fun p hp => ?_⟩
          · obtain ⟨v, o', ho, _⟩ := I1.cell y c' e
            exact Nat.ne_of_lt (Heap.lt_size ho)
          · exact Nat.ne_of_lt (Heap.lt_size (I1.pin p hp).1)
        have K1 : Inv X pins σ (upd H' Z (.lst (bs.map V.ref))) s' := J.drained y1 (by rw [List.length_map]; omega) eS rv ex M.os M.bare M.un M.ok M.nS
        have K2 : Inv X pins σ (upd (upd H' Z (.lst (bs.map V.ref))) s'.heap.objs.size (.tup (bs.map V.ref))) { s' with heap := s'.heap.push { cls := .type "tuple", data := .seq acc } } :=
          K1.laid (t' := s'.toks) (fun b o e => Heap.get?_push_of_some _ e) (Nat.le_refl _) (show ObjOk X.prog X.w _ _ _ (.tup (bs.map V.ref)) from ⟨by rw [List.length_map]; omega, acc.toList, rv, by
            have e : acc.toList.toArray = acc := by simp
            rw [e]
            exact IsTup.new _ _⟩)
        have fS : upd H' Z (.lst (bs.map V.ref)) s'.heap.objs.size = none := K1.hok.fresh (Nat.le_refl _)
        have up : ∀ b u, H' b = some u → upd (upd H' Z (.lst (bs.map V.ref))) s'.heap.objs.size (.tup (bs.map V.ref)) b = some u := fun b u e => by
          have e2 : upd H' Z (.lst (bs.map V.ref)) b = some u := by
            rw [upd_ne (ne_of_none e M.nS)]
            exact e
          rw [upd_ne (ne_of_none e2 fS)]
          exact e2
        have ltS : Z < s'.heap.objs.size := Heap.lt_size eS
        refine ⟨.ref s'.heap.objs.size, _, K2, rfl, q1 _ _ bs (fun b u hb e => up b u (hle' b u ((upd_at b hb).trans e))) ⟨_, up P _ (hle' P _ upd_same), ht3⟩ (I1.hok.fresh (Nat.le_of_lt (Nat.lt_trans y3 (Nat.lt_trans y4 ltS)))) upd_same hbl fun i b row h1 h2 => up b _ (hbt i b row h1 h2)⟩
    cases hf : codeAmong gpos ps.toList with
    | none =>
      refine wpAny_genexprCodeX hcode (cd.code hP2 ht) (cd.tab hP2) hf fun c' h' tk hx hge hlt hco' _ htab' _ => ?_
      obtain ⟨_, _, _, _, _, _, _, _, _, _, _, _, _, _, _, _, _, _, _, htr, _⟩ := hco'
      exact rest _ h' tk _ hx (Nat.le_trans hge (Nat.le_of_lt hlt)) htab'.2 ⟨_, rfl⟩ htr
    | some cv =>
      refine wpAny_genexprCode_hit hcode (cd.code hP2 ht) hf ?_
      exact rest cv (s1.heap.push o) s1.toks ps (Heap.ExtBut.refl _ _) (Nat.le_refl _) hP2 ⟨#[], by simp⟩ ht
  have itsAt : ∀ {its : List Value}, Vals (as.map V.ref) its → its.toArray.size = rows.length ∧ ∀ (i : Nat) (v : Value), its.toArray[i]? = some v → ∃ a, v = .ref a ∧ as[i]? = some a := fun {its} rv => by
    have e1 : its.length = as.length := by rw [← rv.length, List.length_map]
    refine ⟨by rw [List.size_toArray, e1, hlen], fun i v hv => ?_⟩
    have hv2 : its[i]? = some v := by simpa using hv
    have hi : i < as.length := by rw [← e1]; exact (List.getElem?_eq_some_iff.mp hv2).1
    have hb : (as.map V.ref)[i]? = some (V.ref as[i]) := by rw [List.getElem?_map, List.getElem?_eq_getElem hi] <;> rfl
    obtain ⟨u, hu, ru⟩ := rv.get hb
    rw [hv2] at hu
    cases hu
    exact ⟨as[i], ru, List.getElem?_eq_getElem hi⟩
  have hl0 := hl
  rcases hl0 with hl0 | hl0
  · obtain ⟨hz, its, n, rv, e⟩ := I1.hok l _ hl0
    have il : s1.heap.IsList l its.toArray := ⟨_, e, rfl, n, rfl⟩
    have hl1 : l < s1.heap.objs.size := Heap.lt_size e
    obtain ⟨z1, z2⟩ := itsAt rv
    refine wpAny_pyIter_list il (core { cls := .type "list_iterator", data := .fields #[.ref l, .int 0 0] } its.toArray (fun i h => h.IsListIter s1.heap.objs.size l i ∧ h.IsList l its.toArray) z1 z2 (fun A' hA => Walks.list hA _ _ (Nat.ne_of_lt hl1) _) fun h k => ?_)
    exact ⟨⟨_, k _ _ (.inl rfl) (Heap.get?_push_size _ rfl), rfl, rfl⟩, ⟨_, k _ _ (.inr rfl) (Heap.get?_push_of_some _ e), rfl, n, rfl⟩⟩
  · obtain ⟨hz, its, rv, o', e, ec, n, ed⟩ := I1.hok l _ hl0
    have il : s1.heap.IsTuple l its.toArray := ⟨o', e, ec, n, ed⟩
    have hl1 : l < s1.heap.objs.size := Heap.lt_size e
    obtain ⟨z1, z2⟩ := itsAt rv
    refine wpAny_pyIter_tuple il (core { cls := .type "tuple_iterator", data := .fields #[.ref l, .int 0 0] } its.toArray (fun i h => h.IsTupleIter s1.heap.objs.size l i ∧ h.IsTuple l its.toArray) z1 z2 (fun A' hA => Walks.tuple hA _ _ (Nat.ne_of_lt hl1) _) fun h k => ?_)
    exact ⟨⟨_, k _ _ (.inl rfl) (Heap.get?_push_size _ rfl), rfl, rfl⟩, ⟨o', k _ _ (.inr rfl) (Heap.get?_push_of_some _ e), ec, n, ed⟩⟩
end
end AK
set_option Elab.async false
set_option linter.all false
set_option maxRecDepth 100000
set_option maxHeartbeats 4000000
namespace AK
open PySem PySem.Spec PyProof.Rows L2
/-! ### enumerate(tuple) -/
theorem new_enumT (l : Addr) (items : Array Value) :
    Meets (Builtin.«enumerate.__new__» ⟨[.type "enumerate", .ref l], []⟩) (fun _ R s => s.heap.IsTuple l items ∧
      R (.ok (.ret (.ref (s.heap.push { cls := .type "tuple_iterator", data := .fields #[.ref l, .int 0 0] }).objs.size)))
        { s with heap := (s.heap.push { cls := .type "tuple_iterator", data := .fields #[.ref l, .int 0 0] }).push { cls := .type "enumerate", data := .fields #[.none, .bool false, .ref s.heap.objs.size, rawInt 0, .none, .none] } }) :=
  .of_wp fun prog w A R s h => by
    obtain ⟨hp, g, d, tk, os⟩ := s; obtain ⟨⟨o, ho, hc, n, hd⟩, h⟩ := h
    have hsub := sub_enumerate; have hT : Heap.IsTuple (Shared.heap ⟨hp, g, d, tk, os⟩) l items := ⟨o, ho, hc, n, hd⟩
    wp_walk using AutoSeq1.wpAny_loadPart' ho
    refine wpAny_stack_any fun st => wpAny_pure ?_; split
    · rename_i c _ _ _ _ _
      cases (c == Value.type "enumerate") <;> (wp_walk using AutoSeq1.wpAny_loadPart' ho, wpAny_pyIter_tuple hT; exact ⟨_, rfl, h⟩)
    · wp_walk using AutoSeq1.wpAny_loadPart' ho, wpAny_pyIter_tuple hT
      exact ⟨_, rfl, h⟩
theorem call_enumT {prog : Program} {w : World} {A : Around} {E : Value → Shared → Prop} {s : Shared} {l : Addr} {items : Array Value} {Q : Value → Shared → Prop} (hL : s.heap.IsTuple l items)
    (h : ∀ h', IsEnum h' (s.heap.objs.size + 1) s.heap.objs.size 0 .none → h'.IsTupleIter s.heap.objs.size l 0 → (∀ b o, s.heap.get? b = some o → h'.get? b = some o) → Q (.ref (s.heap.objs.size + 1)) { s with heap := h' }) :
    wpAny (model prog w) A (call (.type "enumerate") [.ref l]) Q E s := by
  refine callType_new F.called_enumerate (by decide) (F.typeCall_enumerate_1 _) (F.newCall_enumerate_1 _) (fun obj => F.args_object_init_2 obj _) F.entry_enumerate_new (new_enumT l items) ⟨hL, ?_⟩
  have hz : (s.heap.push { cls := .type "tuple_iterator", data := .fields #[.ref l, .int 0 0] }).objs.size = s.heap.objs.size + 1 := Heap.size_push ..
  show _ ∧ _
  rw [hz]
  have he : IsEnum ((s.heap.push { cls := .type "tuple_iterator", data := .fields #[.ref l, .int 0 0] }).push { cls := .type "enumerate", data := .fields #[.none, .bool false, .ref s.heap.objs.size, rawInt 0, .none, .none] }) (s.heap.objs.size + 1) s.heap.objs.size 0 .none := by
    have e := Heap.get?_push_size (s.heap.push { cls := .type "tuple_iterator", data := .fields #[.ref l, .int 0 0] }) (o := { cls := .type "enumerate", data := .fields #[.none, .bool false, .ref s.heap.objs.size, rawInt 0, .none, .none] }) rfl
    rw [hz] at e
    exact e
  exact ⟨⟨_, he, rfl⟩, h _ he ⟨_, Heap.get?_push_of_some _ (Heap.get?_push_size _ rfl), rfl, rfl⟩ fun b o x => Heap.get?_push_of_some _ (Heap.get?_push_of_some _ x)⟩
end AK
set_option Elab.async false
set_option linter.all false
set_option maxRecDepth 100000
set_option maxHeartbeats 4000000
namespace AK
open PySem PySem.Spec PyProof.Rows L2
/-- the tuple at a, each item in a new pair -/
def IteT (K : PySem.W.Frag) (a : Addr) : It :=
  ⟨fun i H => ∃ (xs : List V) (x : V), SqT K H a xs ∧ xs[i]? = some x, fun i H v H' => ∃ T x, v = .ref T ∧ H T = none ∧ H' = upd H T (.tup [.int (i : Nat), x]) ∧ ∀ xs, SqT K H a xs → xs[i]? = some x, fun i H => ∃ xs : List V, SqT K H a xs ∧ xs.length ≤ i⟩
theorem turn_enumT {P : Program} {w : World} {K : PySem.W.Frag} {elts : List Expr} {kk : Nat} {tpos : Pos} (a e it : Addr) :
    Turn P w K (.Tuple elts kk tpos) (IteT K a) [e, it] e (fun i h => (∃ old, IsEnum h e it ((i : Nat) : Int) old) ∧ h.IsTupleIter it a i ∧ e ≠ it ∧ a ≠ it ∧ a ≠ e) where
  mem := by simp
  obj := fun i h st b hb => by
    obtain ⟨⟨old, he⟩, ⟨o, ho, hc, hd⟩, _⟩ := st
    rcases List.mem_cons.mp hb with z | z
    · rw [z]; exact ⟨_, he, fun v q => nomatch q⟩
    · rw [List.mem_singleton.mp z]; exact ⟨o, ho, fun v q => by rw [hd] at q; cases q⟩
  keep := fun i h h' st k => ⟨⟨st.1.choose, k e (by simp) _ st.1.choose_spec⟩, st.2.1.at fun o q => k it (by simp) o q, st.2.2⟩
  item := by
    intro X hP hw hK hc i pins s σ H E I hf st hg; subst hP hw hK
    obtain ⟨⟨old, he⟩, hit, hne, hai, hae⟩ := st
    obtain ⟨xs, x, hq, hx⟩ := hg
    obtain ⟨its, rv, p, hz⟩ := I.tuple hq
    obtain ⟨u, hu, ru⟩ := rv.get hx
    have hel : e < s.heap.objs.size := Heap.lt_size he
    have hil : it < s.heap.objs.size := by obtain ⟨_, q, _⟩ := hit; exact Heap.lt_size q
    have hlen : i < its.toArray.size := by rw [List.size_toArray]; exact (List.getElem?_eq_some_iff.mp hu).1
    refine wpAny_pyNext_enum_itemD (Draws.tuple (A := X.A.in1) (show X.A.in1.handled = none from I.ok.hd hc) it a hai its.toArray) he ⟨hit, p⟩ hlen hne (fun z => ?_) fun v h' tk hv ho st' hT hsz hk => ?_
    · rcases List.mem_cons.mp z with z | z
      · exact hne z
      · exact hae (List.mem_singleton.mp z).symm
    obtain rfl : u = v := by
      have h1 : its[i]? = some v := by simpa using hv
      rw [hu] at h1
      exact Option.some.inj h1
    refine ⟨_, rfl, wpAny_letOwnedTupleGo_enum (s := { s with heap := h', toks := tk + 1 }) ho fun h'' he' sb => ?_⟩
    have hT2 : h''.get? s.heap.objs.size = some { cls := .type "tuple", data := .seq #[.int i tk, u] } := (sb.2 _ (Nat.ne_of_gt hel)).trans hT
    have new : ObjOk X.prog X.w (upd H s.heap.objs.size (.tup [.int (i : Nat), x])) h'' s.heap.objs.size (.tup [.int (i : Nat), x]) := ⟨by show 2 ≤ sizeLine; decide, [.int i tk, u], .cons ⟨_, rfl⟩ (.cons ru .nil), ⟨_, hT2, rfl, _, rfl⟩⟩
    have I1 : Inv X pins σ (upd H s.heap.objs.size (.tup [.int (i : Nat), x])) { s with heap := h'', toks := tk + 1 } :=
      I.turnedNew (ch := [e, it]) (fun b ob hb q => (sb.2 b (fun z => hb (by simp [z]))).trans (hk b ob (fun z => hb (by simp [z])) (fun z => hb (by simp [z])) q)) hf (Nat.le_refl _) new
    refine ⟨.ref s.heap.objs.size, _, I1, rfl, ⟨_, x, rfl, I.hok.fresh (Nat.le_refl _), rfl, fun ys hy => by rw [I.tuple_inj hy hq]; exact hx⟩, ⟨⟨u, ?_⟩, st'.1.at fun o q => (sb.2 it (Ne.symm hne)).trans q, hne, hai, hae⟩, fun b hb => ?_⟩
    · have e1 : ((i + 1 : Nat) : Int) = (i : Int) + 1 := by omega
      rw [e1]; exact he'
    · have hb' : b < s.heap.objs.size := by
        rcases List.mem_cons.mp hb with z | z
        · rw [z]; exact hel
        · rw [List.mem_singleton.mp z]; exact hil
      rw [upd_ne (Nat.ne_of_lt hb')]
      exact (hf b hb).1
  done := by
    intro X hP hw hK hc i pins s σ H E I hf st hg; subst hP hw hK
    obtain ⟨⟨old, he⟩, hit, hne, hai, hae⟩ := st
    obtain ⟨xs, hq, hx⟩ := hg
    obtain ⟨its, rv, p, hz⟩ := I.tuple hq
    obtain ⟨f0, f1, f2, f3, f4, f5⟩ := hf it (by simp)
    have hl := rv.length
    have hT : s.TypeIs (.ref e) "enumerate" := ⟨_, he, rfl⟩
    have hnone : its.toArray[i]? = none := by simp; omega
    unfold pyNext
    refine wpAny_bind (wpAny_attempt (wpAny_callSpecial?_slot (name := Str.ofString "__next__") hT F.slot_enumerate_next (wpAny_call_entry F.slot_enumerate_next hT F.entry_enumerate_next ?_ (F.args_enumerate_next_1 _))))
    show wpAny _ _ (field (.ref e) 2 >>= _) _ _ _; refine wpAny_bind (wpAny_field he rfl (x := .ref it) rfl (wpAny_bind (wpAny_nextOf_tuple_end (show X.A.in1.handled = none from I.ok.hd hc) hit p hnone fun h' x eb hx' => ?_)))
    obtain ⟨o, ho, hcl⟩ := hx'
    refine wpAny_bind (wpAny_isInstance (T := "StopIteration") (b := true) ⟨o, ho, hcl⟩ isSubtype_stop (wpAny_pure ⟨rfl, I.turned (t' := s.toks) (fun b o' hb q => eb b o' hb q) f0 f1 f3 f4 f5⟩))
  self := fun A i s Q E st h => wpAny_pyIter_enum st.1.choose_spec h
/-- enumerate(e), e a list or a tuple -/
def iEnumB (K : PySem.W.Frag) (ta : TA) : TI := fun σ H R => ta σ H fun vs H1 => ∃ a, vs = [.ref a] ∧ ((∃ xs, SqL K H1 a xs ∧ R (Ite K a) H1) ∨ (∃ xs, SqT K H1 a xs ∧ R (IteT K a) H1))
theorem pi_enumB {X : Cx} {e : Expr} {ta : TA} {p pos tpos : Pos} {elts : List Expr} {kk : Nat} (hg : Gl X "enumerate") (hm : X.mg "enumerate" = none) (ha : PA X [e] ta) (hs : starEach [e] X.env = [(false, eval e X.env)] := by rfl) :
    PI X (.Tuple elts kk tpos) (.Call (.Name "enumerate" p) [e] [] pos) (iEnumB X.K ta) := by
  refine ⟨fun pins s σ H R I h => ?_⟩
  refine Call_ (ld_blt I hg hm boot_enumerate (PyProof.Rows.callWith_type1 (thn (ha.run pos pins s σ H _ I h) fun us s1 ⟨vs, H1, I1, r1, q1⟩ => ?_) hs rfl))
  obtain ⟨a, rfl, q1⟩ := q1
  cases r1 with
  | cons r rr =>
    cases rr
    cases r
    have hfp : ∀ b ∈ [s1.heap.objs.size + 1, s1.heap.objs.size], FpOk X pins H1 b := fun b hb => by
      have hle : s1.heap.objs.size ≤ b := by
        rcases List.mem_cons.mp hb with z | z
        · rw [z]; exact Nat.le_add_right _ _
        · rw [List.mem_singleton.mp z]; exact Nat.le_refl _
      exact I1.fpOk hle (I1.hok.fresh hle)
    rcases q1 with ⟨xs, hq, q⟩ | ⟨xs, hq, q⟩
    · obtain ⟨its, rv, p', hz⟩ := I1.list hq
      exact call_enumerate_list p'.isList fun h' he hit hsz hk => wpAny_pyIter_enum he ⟨s1.heap.objs.size + 1, [s1.heap.objs.size + 1, s1.heap.objs.size], _, _, H1, rfl, I1.kept (t' := s1.toks) hk, turn_enum a (s1.heap.objs.size + 1) s1.heap.objs.size, ⟨⟨.none, he⟩, hit, Nat.succ_ne_self _⟩, hfp, q⟩
    · obtain ⟨its, rv, p', hz⟩ := I1.tuple hq
      have ha1 : a < s1.heap.objs.size := by obtain ⟨o, e, _⟩ := p'; exact Heap.lt_size e
      exact call_enumT p' fun h' he hit hk => wpAny_pyIter_enum he ⟨s1.heap.objs.size + 1, [s1.heap.objs.size + 1, s1.heap.objs.size], _, _, H1, rfl, I1.kept (t' := s1.toks) hk, turn_enumT a (s1.heap.objs.size + 1) s1.heap.objs.size, ⟨⟨.none, he⟩, hit, Nat.succ_ne_self _, Nat.ne_of_lt ha1, Nat.ne_of_lt (Nat.lt_succ_of_lt ha1)⟩, hfp, q⟩
end AK
set_option Elab.async false
set_option linter.all false
set_option maxRecDepth 100000
set_option maxHeartbeats 4000000
namespace AK
open PySem PySem.Spec PyProof.Rows L2
/-! ### enumerate(text) -/
/-- the signs of a text, each in a new pair -/
def IteS (x : Str) : It :=
  ⟨fun i _ => i < x.cps.size, fun i H v H' => ∃ T c, v = .ref T ∧ H T = none ∧ H' = upd H T (.tup [.int (i : Nat), .str ⟨#[c]⟩]) ∧ x.cps[i]? = some c, fun i _ => x.cps.size ≤ i⟩
theorem turn_enumS {P : Program} {w : World} {K : PySem.W.Frag} {elts : List Expr} {kk : Nat} {tpos : Pos} (x : Str) (t : Tok) (e it : Addr) :
    Turn P w K (.Tuple elts kk tpos) (IteS x) [e, it] e (fun i h => i ≤ x.cps.size ∧ (∃ old, IsEnum h e it ((i : Nat) : Int) old) ∧ h.IsStrIter it (strIterType x) x t i ∧ e ≠ it) where
  mem := by simp
  obj := fun i h st b hb => by
    obtain ⟨_, ⟨old, he⟩, ⟨o, ho, hc, hd⟩, _⟩ := st
    rcases List.mem_cons.mp hb with z | z
    · rw [z]; exact ⟨_, he, fun v q => nomatch q⟩
    · rw [List.mem_singleton.mp z]; exact ⟨o, ho, fun v q => by rw [hd] at q; cases q⟩
  keep := fun i h h' st k => ⟨st.1, ⟨st.2.1.choose, k e (by simp) _ st.2.1.choose_spec⟩, (let ⟨o, ho, r⟩ := st.2.2.1; ⟨o, k it (by simp) o ho, r⟩), st.2.2.2⟩
  item := by
    intro X hP hw hK hc i pins s σ H E I hf st hg; subst hP hw hK
    obtain ⟨hle, ⟨old, he⟩, hit, hne⟩ := st
    have hel : e < s.heap.objs.size := Heap.lt_size he
    have hil : it < s.heap.objs.size := by obtain ⟨_, q, _⟩ := hit; exact Heap.lt_size q
    refine wpAny_pyNext_enum_itemD (Draws.text (A := X.A.in1) (show X.A.in1.handled = none from I.ok.hd hc) it x t) he hit hg hne (fun z => hne (List.mem_singleton.mp z)) fun v h' tk hv ho st' hT hsz hk => ?_
    obtain ⟨c, u, hcx, rfl⟩ := hv
    refine ⟨_, rfl, wpAny_letOwnedTupleGo_enum (s := { s with heap := h', toks := tk + 1 }) ho fun h'' he' sb => ?_⟩
    have hT2 : h''.get? s.heap.objs.size = some { cls := .type "tuple", data := .seq #[.int i tk, .str ⟨#[c]⟩ u] } := (sb.2 _ (Nat.ne_of_gt hel)).trans hT
    have new : ObjOk X.prog X.w (upd H s.heap.objs.size (.tup [.int (i : Nat), .str ⟨#[c]⟩])) h'' s.heap.objs.size (.tup [.int (i : Nat), .str ⟨#[c]⟩]) := ⟨by show 2 ≤ sizeLine; decide, [.int i tk, .str ⟨#[c]⟩ u], .cons ⟨_, rfl⟩ (.cons ⟨_, rfl⟩ .nil), ⟨_, hT2, rfl, _, rfl⟩⟩
    have I1 : Inv X pins σ (upd H s.heap.objs.size (.tup [.int (i : Nat), .str ⟨#[c]⟩])) { s with heap := h'', toks := tk + 1 } :=
      I.turnedNew (ch := [e, it]) (fun b ob hb q => (sb.2 b (fun z => hb (by simp [z]))).trans (hk b ob (fun z => hb (by simp [z])) (fun z => hb (by simp [z])) q)) hf (Nat.le_refl _) new
    have hst2 : h''.IsStrIter it (strIterType x) x t (i + 1) := let ⟨o, ho, r⟩ := st'; ⟨o, (sb.2 it (Ne.symm hne)).trans ho, r⟩
    refine ⟨.ref s.heap.objs.size, _, I1, rfl, ⟨_, c, rfl, I.hok.fresh (Nat.le_refl _), rfl, hcx⟩, ⟨hg, ⟨.str ⟨#[c]⟩ u, ?_⟩, hst2, hne⟩, fun b hb => ?_⟩
    · have e1 : ((i + 1 : Nat) : Int) = (i : Int) + 1 := by omega
      rw [e1]; exact he'
    · have hb' : b < s.heap.objs.size := by
        rcases List.mem_cons.mp hb with z | z
        · rw [z]; exact hel
        · rw [List.mem_singleton.mp z]; exact hil
      rw [upd_ne (Nat.ne_of_lt hb')]
      exact (hf b hb).1
  done := by
    intro X hP hw hK hc i pins s σ H E I hf st hg; subst hP hw hK
    obtain ⟨hle, ⟨old, he⟩, hit, hne⟩ := st
    obtain ⟨f0, f1, f2, f3, f4, f5⟩ := hf it (by simp)
    have hi : i = x.cps.size := Nat.le_antisymm hle hg
    subst hi
    exact wpAny_pyNext_enum_endD (Draws.text (A := X.A.in1) (show X.A.in1.handled = none from I.ok.hd hc) it x t) he hit fun h' eb =>
      ⟨rfl, I.turned (t' := s.toks) (fun b o' hb q => eb b o' hb q) f0 f1 f3 f4 f5⟩
  self := fun A i s Q E st h => wpAny_pyIter_enum st.2.1.choose_spec h
/-- enumerate(e), e a text -/
def iEnumS (ta : TA) : TI := fun σ H R => ta σ H fun vs H1 => ∃ x, vs = [.str x] ∧ R (IteS x) H1
theorem pi_enumS {X : Cx} {e : Expr} {ta : TA} {p pos tpos : Pos} {elts : List Expr} {kk : Nat} (hg : Gl X "enumerate") (hm : X.mg "enumerate" = none) (ha : PA X [e] ta) (hs : starEach [e] X.env = [(false, eval e X.env)] := by rfl) :
    PI X (.Tuple elts kk tpos) (.Call (.Name "enumerate" p) [e] [] pos) (iEnumS ta) := by
  refine ⟨fun pins s σ H R I h => ?_⟩
  refine Call_ (ld_blt I hg hm boot_enumerate (PyProof.Rows.callWith_type1 (thn (ha.run pos pins s σ H _ I h) fun us s1 ⟨vs, H1, I1, r1, q1⟩ => ?_) hs rfl))
  obtain ⟨x, rfl, q⟩ := q1
  cases r1 with
  | cons r rr =>
    cases rr
    obtain ⟨t, rfl⟩ := r
    have hfp : ∀ b ∈ [s1.heap.objs.size + 1, s1.heap.objs.size], FpOk X pins H1 b := fun b hb => by
      have hle : s1.heap.objs.size ≤ b := by
        rcases List.mem_cons.mp hb with z | z
        · rw [z]; exact Nat.le_add_right _ _
        · rw [List.mem_singleton.mp z]; exact Nat.le_refl _
      exact I1.fpOk hle (I1.hok.fresh hle)
    exact call_enumerate_str fun h' he hit hsz hk => wpAny_pyIter_enum he ⟨s1.heap.objs.size + 1, [s1.heap.objs.size + 1, s1.heap.objs.size], _, _, H1, rfl, I1.kept (t' := s1.toks) hk, turn_enumS x t (s1.heap.objs.size + 1) s1.heap.objs.size, ⟨Nat.zero_le _, ⟨.none, he⟩, hit, Nat.succ_ne_self _⟩, hfp, q⟩
end AK
set_option Elab.async false
set_option linter.all false
set_option maxRecDepth 100000
set_option maxHeartbeats 4000000
namespace AK
open PySem PySem.Spec PyProof.Rows L2
/-! ### loops, folded so that simp stops ahead of them -/
def contF (g : TG) (tb : TS) (D : Ends) (σ : L2.St) : It → Hp → Prop := fun J H1 => ∃ W : Nat → Nat → L2.St → Hp → Prop, (∃ m, W 0 m σ H1) ∧ ∀ i m σ H, W i m σ H →
  (J.stop i H ∧ D.nx σ H) ∨ (J.go i H ∧ ∃ N : L2.St → Hp → Prop, (∀ σ' H', N σ' H' → ∃ m', m' < m ∧ W (i + 1) m' σ' H') ∧ ∀ x H', J.yld i H x H' → g x σ H' fun σ2 H2 => tb { D with nx := N, ct := N, bk := D.nx } σ2 H2)
theorem tFor_c {wi : TI} {g : TG} {tb : TS} {D : Ends} {σ : L2.St} {H : Hp} : tFor wi g tb D σ H = wi σ H (contF g tb D σ) := rfl
def contL (g : TG) (tt : TT) (te : TE) (vs : List Nat) (σ : L2.St) (Q : VK) : It → Hp → Prop := fun J H1 => ∀ D, H1 D = none → ∃ W : Nat → Nat → Hp → Prop, (∃ m, W 0 m (upd H1 D (.lst []))) ∧ ∀ i m H, W i m H →
  (J.stop i H ∧ Q (.ref D) H) ∨ (J.go i H ∧ ∃ Nx : Hp → Prop, (∀ H', Nx H' → ∃ m', m' < m ∧ W (i + 1) m' H') ∧ ∀ x H', J.yld i H x H' → g x (wipe σ vs) H' fun σ2 H2 => wipe σ2 vs = wipe σ vs ∧ tt σ2 H2 fun b H3 =>
    if b = true then te σ2 H3 fun y H4 => ∃ acc, H4 D = some (.lst acc) ∧ acc.length < sizeLine ∧ Nx (upd H4 D (.lst (acc ++ [y]))) else Nx H3)
theorem tLc_c {wi : TI} {g : TG} {tt : TT} {te : TE} {vs : List Nat} {σ : L2.St} {H : Hp} {Q : VK} : tLc wi g tt te vs σ H Q = wi σ H (contL g tt te vs σ Q) := rfl
section
variable {g : TG} {tb : TS} {D : Ends} {σ : L2.St} {H : Hp} {K : PySem.W.Frag} {tt : TT} {te : TE} {vs : List Nat} {Q : VK}
theorem forRng {n : Nat} (Pv : Nat → L2.St → Hp → Prop) (h0 : Pv 0 σ H) (hs : ∀ i σ H, i < n → Pv i σ H → g (.int (0 + i)) σ H fun σ2 H2 => tb { D with nx := Pv (i + 1), ct := Pv (i + 1), bk := D.nx } σ2 H2) (hd : ∀ σ H, Pv n σ H → D.nx σ H) :
    contF g tb D σ (Itr 0 n) H := for_range Pv h0 hs hd
theorem forLst {a : Addr} {xs : List V} (Pv : Nat → L2.St → Hp → Prop) (h0 : Pv 0 σ H) (hl : ∀ i σ H, i ≤ xs.length → Pv i σ H → SqL K H a xs) (hs : ∀ i x σ H, xs[i]? = some x → Pv i σ H → g x σ H fun σ2 H2 => tb { D with nx := Pv (i + 1), ct := Pv (i + 1), bk := D.nx } σ2 H2) (hd : ∀ σ H, Pv xs.length σ H → D.nx σ H) :
    contF g tb D σ (Itl K a) H := for_list Pv h0 hl hs hd
theorem forTup {a : Addr} {xs : List V} (Pv : Nat → L2.St → Hp → Prop) (h0 : Pv 0 σ H) (hl : ∀ i σ H, i ≤ xs.length → Pv i σ H → SqT K H a xs) (hs : ∀ i x σ H, xs[i]? = some x → Pv i σ H → g x σ H fun σ2 H2 => tb { D with nx := Pv (i + 1), ct := Pv (i + 1), bk := D.nx } σ2 H2) (hd : ∀ σ H, Pv xs.length σ H → D.nx σ H) :
    contF g tb D σ (Itt K a) H := for_tup Pv h0 hl hs hd
theorem forStr {x : Str} (Pv : Nat → L2.St → Hp → Prop) (h0 : Pv 0 σ H) (hs : ∀ i c σ H, x.cps.toList[i]? = some c → Pv i σ H → g (.str ⟨#[c]⟩) σ H fun σ2 H2 => tb { D with nx := Pv (i + 1), ct := Pv (i + 1), bk := D.nx } σ2 H2) (hd : ∀ σ H, Pv x.cps.toList.length σ H → D.nx σ H) :
    contF g tb D σ (Its x) H := by
  have hz : x.cps.toList.length = x.cps.size := Array.length_toList ..
  refine ⟨fun i m σ H => m = x.cps.size - i ∧ i ≤ x.cps.size ∧ Pv i σ H, ⟨x.cps.size, by simp, Nat.zero_le _, h0⟩, ?_⟩
  rintro i m σ H ⟨rfl, hi, p⟩
  by_cases hlt : i < x.cps.size
  · refine .inr ⟨hlt, Pv (i + 1), fun σ' H' p' => ⟨x.cps.size - (i + 1), by omega, rfl, hlt, p'⟩, fun y H' hy => ?_⟩
    obtain ⟨rfl, c, hc, rfl⟩ := hy
    exact hs i c σ _ (by rw [Array.getElem?_toList]; exact hc) p
  · have e : i = x.cps.size := by omega
    subst e
    exact .inl ⟨Nat.le_refl _, hd σ H (by rw [hz]; exact p)⟩
theorem forEnumL {a : Addr} {xs : List V} (Pv : Nat → L2.St → Hp → Prop) (h0 : Pv 0 σ H) (hl : ∀ i σ H, i ≤ xs.length → Pv i σ H → SqL K H a xs)
    (hs : ∀ i x T σ H, xs[i]? = some x → Pv i σ H → H T = none → g (.ref T) σ (upd H T (.tup [.int (i : Nat), x])) fun σ2 H2 => tb { D with nx := Pv (i + 1), ct := Pv (i + 1), bk := D.nx } σ2 H2) (hd : ∀ σ H, Pv xs.length σ H → D.nx σ H) : contF g tb D σ (Ite K a) H := by
  refine ⟨fun i m σ H => m = xs.length - i ∧ i ≤ xs.length ∧ Pv i σ H, ⟨xs.length, by simp, Nat.zero_le _, h0⟩, ?_⟩
  rintro i m σ H ⟨rfl, hi, p⟩
  have q := hl i σ H hi p
  by_cases hlt : i < xs.length
  · refine .inr ⟨⟨xs, xs[i], q, List.getElem?_eq_getElem hlt⟩, Pv (i + 1), fun σ' H' p' => ⟨xs.length - (i + 1), by omega, rfl, hlt, p'⟩, fun y H' hy => ?_⟩
    obtain ⟨T, x, rfl, hT, rfl, hx⟩ := hy
    exact hs i x T σ H (hx xs q) p hT
  · obtain rfl : i = xs.length := by omega
    exact .inl ⟨⟨xs, q, Nat.le_refl _⟩, hd σ H p⟩
theorem forEnumT {a : Addr} {xs : List V} (Pv : Nat → L2.St → Hp → Prop) (h0 : Pv 0 σ H) (hl : ∀ i σ H, i ≤ xs.length → Pv i σ H → SqT K H a xs)
    (hs : ∀ i x T σ H, xs[i]? = some x → Pv i σ H → H T = none → g (.ref T) σ (upd H T (.tup [.int (i : Nat), x])) fun σ2 H2 => tb { D with nx := Pv (i + 1), ct := Pv (i + 1), bk := D.nx } σ2 H2) (hd : ∀ σ H, Pv xs.length σ H → D.nx σ H) : contF g tb D σ (IteT K a) H := by
  refine ⟨fun i m σ H => m = xs.length - i ∧ i ≤ xs.length ∧ Pv i σ H, ⟨xs.length, by simp, Nat.zero_le _, h0⟩, ?_⟩
  rintro i m σ H ⟨rfl, hi, p⟩
  have q := hl i σ H hi p
  by_cases hlt : i < xs.length
  · refine .inr ⟨⟨xs, xs[i], q, List.getElem?_eq_getElem hlt⟩, Pv (i + 1), fun σ' H' p' => ⟨xs.length - (i + 1), by omega, rfl, hlt, p'⟩, fun y H' hy => ?_⟩
    obtain ⟨T, x, rfl, hT, rfl, hx⟩ := hy
    exact hs i x T σ H (hx xs q) p hT
  · obtain rfl : i = xs.length := by omega
    exact .inl ⟨⟨xs, q, Nat.le_refl _⟩, hd σ H p⟩
theorem lcRng {n : Nat} (Pv : Nat → Addr → Hp → Prop) (h0 : ∀ D, H D = none → Pv 0 D (upd H D (.lst [])))
    (hs : ∀ i D H', H D = none → i < n → Pv i D H' → g (.int (0 + i)) (wipe σ vs) H' fun σ2 H2 => wipe σ2 vs = wipe σ vs ∧ tt σ2 H2 fun b H3 => if b = true then te σ2 H3 fun y H4 => ∃ acc, H4 D = some (.lst acc) ∧ acc.length < sizeLine ∧ Pv (i + 1) D (upd H4 D (.lst (acc ++ [y]))) else Pv (i + 1) D H3)
    (hd : ∀ D H', H D = none → Pv n D H' → Q (.ref D) H') : contL g tt te vs σ Q (Itr 0 n) H := fun D hD => lc_range (fun i H' => Pv i D H') (h0 D hD) (fun i H' hi p => hs i D H' hD hi p) fun H' p => hd D H' hD p
theorem lcLst {a : Addr} {xs : List V} (Pv : Nat → Addr → Hp → Prop) (h0 : ∀ D, H D = none → Pv 0 D (upd H D (.lst []))) (hl : ∀ i D H', H D = none → i ≤ xs.length → Pv i D H' → SqL K H' a xs)
    (hs : ∀ i x D H', H D = none → xs[i]? = some x → Pv i D H' → g x (wipe σ vs) H' fun σ2 H2 => wipe σ2 vs = wipe σ vs ∧ tt σ2 H2 fun b H3 => if b = true then te σ2 H3 fun y H4 => ∃ acc, H4 D = some (.lst acc) ∧ acc.length < sizeLine ∧ Pv (i + 1) D (upd H4 D (.lst (acc ++ [y]))) else Pv (i + 1) D H3)
    (hd : ∀ D H', H D = none → Pv xs.length D H' → Q (.ref D) H') : contL g tt te vs σ Q (Itl K a) H := fun D hD => lc_list (fun i H' => Pv i D H') (h0 D hD) (fun i H' hi p => hl i D H' hD hi p) (fun i x H' hx p => hs i x D H' hD hx p) fun H' p => hd D H' hD p
theorem lcTup {a : Addr} {xs : List V} (Pv : Nat → Addr → Hp → Prop) (h0 : ∀ D, H D = none → Pv 0 D (upd H D (.lst []))) (hl : ∀ i D H', H D = none → i ≤ xs.length → Pv i D H' → SqT K H' a xs)
    (hs : ∀ i x D H', H D = none → xs[i]? = some x → Pv i D H' → g x (wipe σ vs) H' fun σ2 H2 => wipe σ2 vs = wipe σ vs ∧ tt σ2 H2 fun b H3 => if b = true then te σ2 H3 fun y H4 => ∃ acc, H4 D = some (.lst acc) ∧ acc.length < sizeLine ∧ Pv (i + 1) D (upd H4 D (.lst (acc ++ [y]))) else Pv (i + 1) D H3)
    (hd : ∀ D H', H D = none → Pv xs.length D H' → Q (.ref D) H') : contL g tt te vs σ Q (Itt K a) H := fun D hD => lc_tup (fun i H' => Pv i D H') (h0 D hD) (fun i H' hi p => hl i D H' hD hi p) (fun i x H' hx p => hs i x D H' hD hx p) fun H' p => hd D H' hD p
end
/-! ### a list or a tuple: its length, a walk over it -/
section
variable {X : Cx}
def hLenB : List V → Hp → VK → Prop := fun xs H Q => ∃ p ys, xs = [.ref p] ∧ RowAt H p ys ∧ Q (.int ys.length) H
theorem callLenB : CallR X (.builtin "len") hLenB := CallR.imp call_len_seq fun _ _ _ ⟨p, ys, h1, h2, h3⟩ => ⟨p, ys, h1, h2.imp SqL.of SqT.of, h3⟩
def hTupB : List V → Hp → VK → Prop := fun xs H Q => ∃ p ys, xs = [.ref p] ∧ RowAt H p ys ∧ ∀ t H', Same H H' → (H t = none ∨ H t = some (.tup ys)) → H' t = some (.tup ys) → Q (.ref t) H'
theorem callTupB : CallR X (.type "tuple") hTupB := CallR.imp call_tuple_of fun _ H _ ⟨p, ys, h1, h2, h3⟩ => ⟨p, ys, h1, by
  rcases h2 with h2 | h2
  · exact .inl ⟨SqL.of h2, fun l hl => h3 l _ (same_new hl) (.inl hl) upd_same⟩
  · exact .inr ⟨SqT.of h2, h3 p H (Same.refl _) (.inr h2) h2⟩⟩
def hLstB : List V → Hp → VK → Prop := fun xs H Q => ∃ p ys, xs = [.ref p] ∧ RowAt H p ys ∧ ∀ t, H t = none → Q (.ref t) (upd H t (.lst ys))
theorem callLstB : CallR X (.type "list") hLstB := CallR.imp call_list_of fun _ H _ ⟨p, ys, h1, h2, h3⟩ => ⟨p, ys, h1, h2.imp SqL.of SqT.of, h3⟩
def iSeqB (K : PySem.W.Frag) (tl : TE) : TI := fun σ H R => tl σ H fun x H1 => ∃ a, x = .ref a ∧ ((∃ xs, SqL K H1 a xs ∧ R (Itl K a) H1) ∨ (∃ xs, SqT K H1 a xs ∧ R (Itt K a) H1))
theorem pi_seqB {tg l : Expr} {tl : TE} (hl : PE X l tl) : PI X tg l (iSeqB X.K tl) := by
  refine ⟨fun pins s σ H R I h => ?_⟩
  refine thn (hl.run pins s σ H _ I h) fun v s1 ⟨x, H1, I1, r1, a, e, q1⟩ => ?_
  subst e; cases r1
  have hb : ∀ b ∈ [s1.heap.objs.size], FpOk X pins H1 b := fun b hb => by
    rw [List.mem_singleton.mp hb]
    exact I1.fpOk (Nat.le_refl _) (I1.hok.fresh (Nat.le_refl _))
  rcases q1 with ⟨xs, hq, q⟩ | ⟨xs, hq, q⟩
  · obtain ⟨its, rv, p, hz⟩ := I1.list hq
    exact wpAny_pyIter_list p.isList ⟨s1.heap.objs.size, [s1.heap.objs.size], _, _, H1, rfl, I1.kept (t' := s1.toks) fun b o e => Heap.get?_push_of_some _ e, turn_list a _, ⟨_, Heap.get?_push_size _ rfl, rfl, rfl⟩, hb, q⟩
  · obtain ⟨its, rv, p, hz⟩ := I1.tuple hq
    exact wpAny_pyIter_tuple (show s1.heap.IsTuple a its.toArray from p) ⟨s1.heap.objs.size, [s1.heap.objs.size], _, _, H1, rfl, I1.kept (t' := s1.toks) fun b o e => Heap.get?_push_of_some _ e, turn_tuple a _, ⟨_, Heap.get?_push_size _ rfl, rfl, rfl⟩, hb, q⟩
/-- C(e, ..), what is raised wished for at the caller's slots -/
def tMakeS (C : Addr) (sp : Sp) (E : L2.St → XK) (t : TA) : TE := fun σ H Q => t σ H fun vs H1 => ∀ x dx, H1 x = none → H1 dx = none → dx ≠ x → sp (.ref x :: vs) (upd (upd H1 dx (.own x)) x (.ins C dx [])) (fun v H2 => v = .non ∧ Q (.ref x) H2) (E σ)
theorem pe_makeS {CX : CXT} {C f : Addr} {k : Nat} {fd : FuncData} {ps : List Str} {sp : Sp} {E : L2.St → XK} {x : Str} {p pos : Pos} {e : Expr} {es : List Expr} {t : TA} (M : Mk X.K C f) (F : FnOk X.prog X.w X.K X.mg X.base CX k f fd ps sp) (hr : Room (k + 1) X.A) (hg : Gl X x) (hm : X.mg x = some (.ref C)) (hb : Binds X.K fd ps []) (hx : ∀ σ, PassesAt CX X σ (E σ))
    (ha : PA X (e :: es) t) (hdb : (x == ("__debug__" : Str)) = false := by decide) (he : starEach (e :: es) X.env = (false, eval e X.env) :: starEach es X.env := by rfl) (hpl : (backTo pos (starEach es X.env)).any (·.1) = false := by rfl) :
    PE X (.Call (.Name x p) (e :: es) [] pos) (tMakeS C sp E t) := by
  refine ⟨fun pins s σ H Q I h => wpAny_Call_Name_kw (ld_glob I hg hm (PySem.W.callWith_K (h₀ := X.base) I.ok.mod.kin M.kp (thn (ha.run pos pins s σ H _ I h) fun us s1 ⟨vs, H1, I1, r, q⟩ => ⟨I1.kIn, ?_⟩) he hpl) hdb)⟩
  have hq := q (s1.heap.objs.size + 1) s1.heap.objs.size (I1.hok.fresh (Nat.le_succ _)) (I1.hok.fresh (Nat.le_refl _)) (Nat.ne_of_lt (Nat.lt_succ_self _))
  have I2 := Inv.made (C := C) I1
  have r2 : Vals (V.ref (s1.heap.objs.size + 1) :: vs) (Value.ref (s1.heap.objs.size + 1) :: us) := .cons rfl r
  have hl : (Value.ref (s1.heap.objs.size + 1) :: us).length = ps.length := by
    have e := r2.length
    rw [F.len _ _ _ _ hq] at e
    exact e.symm
  have hb2 := hb _ (Value.ref (s1.heap.objs.size + 1) :: us) I2.kIn (by rw [List.append_nil]; exact hl)
  rw [List.append_nil] at hb2
  refine wpAny_call (make_map (f := f) I1.kIn M.makes M.init (beq_iff_eq.mp M.fn) (codeAny_mono (F.run _ X.stack _ _ ⟨Value.ref (s1.heap.objs.size + 1) :: us, []⟩ (Value.ref (s1.heap.objs.size + 1) :: us) _ _ (E σ) (hr.make C us []) (I2.env0.make C us []) hb2 r2 hq) fun r s' hq' => ?_))
  cases r with
  | error er => exact hx σ pins _ _ er s' I2 hq'
  | ok fl =>
    cases fl with
    | ret u =>
      obtain ⟨v, H', I3, rv, ev, q3⟩ := I2.after hq'
      subst ev
      exact ⟨rv, V.ref (s1.heap.objs.size + 1), H', I3, rfl, q3⟩
    | next => exact False.elim hq'
    | brk => exact False.elim hq'
    | cont => exact False.elim hq'
end
end AK
set_option Elab.async false
set_option linter.all false
set_option maxRecDepth 100000
set_option maxHeartbeats 4000000
namespace AK
open PySem PySem.Spec PyProof.Rows L2
/-! ### exceptions -/
/-- what the written part says of an exception class of the program -/
theorem ExcA.excC {K : PySem.W.Frag} {C : Addr} (x : ExcA K C) : ExcC K C := ⟨x.ga, x.gg, x.ex, x.hd, x.hc, x.hn, x.ht, x.hm⟩
theorem ExcA.xf {K : PySem.W.Frag} {C : Addr} (x : ExcA K C) : XfC K C := ⟨x.ga, x.gg, x.ex, x.hd⟩
theorem ExcA.cl {K : PySem.W.Frag} {C : Addr} (x : ExcA K C) : (PySem.W.clsIn K C).isSome = true := by
  have h := x.hd
  unfold PySem.W.hasDictIn at h
  cases q : PySem.W.clsIn K C with
  | none => rw [q] at h; cases h
  | some c => rfl
theorem ExcA.one {K : PySem.W.Frag} {C : Addr} (x : ExcA K C) : PySem.W.exmOne K (.ref C) (.ref C) = some true := by
  unfold PySem.W.exmOne PySem.W.kitCls
  rw [if_pos (by rw [x.ex]; rfl)]
  dsimp only
  rw [if_pos (by rw [x.cl, x.ty]; rfl)]
  exact x.su
theorem ExcA.raises {X : Cx} {C : Addr} (x : ExcA X.K C) : Raises X (.ref C) := raises_own x.ex x.ty
/-- isinstance(e, c) in a suite, e with a dict of its own -/
def rIsD (K : PySem.W.Frag) (D a : Addr) (cls : Value) (d : Option Addr) : List V → Hp → VK → Prop := fun xs H Q => ∃ (c : V) (cv : Value) (b : Bool) (dd : Addr) (fs : List (Str × V)), xs = [.ref a, c] ∧ cls = .ref D ∧ ClsV c cv ∧ PySem.W.kitOne K (.ref D) cv = some b ∧ d = some dd ∧ H dd = some (.xd fs) ∧ Q (.bl b) H
theorem call_isD {X : Cx} {a D : Addr} {oe : Obj} {d : Option Addr} {cls : Value} {pn : List (Addr × Obj)} (C : ExcA X.K D) (hz : Zc cls d oe) (hf : ∃ vs, oe.data = .fields vs) : CallR (X.suite a ((a, oe) :: pn)) (.builtin "isinstance") (rIsD X.K D a cls d) := by
  intro pins s σ H xs us Q I r h
  obtain ⟨c, cv, b, dd, fs, rfl, ec, kc, e, ed, ea, q⟩ := h
  obtain ⟨u1, u2, rfl, r1, r2⟩ := vals2 r
  obtain rfl : u1 = Value.ref a := r1
  have e2 := kc.eq r2
  subst e2
  subst ec
  subst ed
  obtain ⟨ha, _⟩ := I.pin (a, oe) (List.mem_append_left _ List.mem_cons_self)
  obtain ⟨vs, hv⟩ := hf
  have hx : ObjOk X.prog X.w H s.heap dd (.xd fs) := I.hok dd _ ea
  obtain ⟨mA, hns, _⟩ := hx
  obtain ⟨od, ho, _⟩ := lookIn_ns hns
  have J : PySem.W.InstAt s.heap a oe D (some od) := ⟨ha, hz.1, by unfold PySem.W.notCls; rw [hv] <;> rfl, by rw [hz.2]; exact ho⟩
  exact PySem.W.kia_one (PySem.W.kitx_exc C.cl C.ga C.gg C.ex C.hc C.hn C.ht C.hm) I.kIn J e (fun z => nomatch z) fun tk => ⟨.bl b, H, I.tok tk, rfl, q⟩
/-- .. without one -/
def rIsN (K : PySem.W.Frag) (D a : Addr) (cls : Value) (d : Option Addr) : List V → Hp → VK → Prop := fun xs H Q => ∃ (c : V) (cv : Value) (b : Bool), xs = [.ref a, c] ∧ cls = .ref D ∧ d = none ∧ ClsV c cv ∧ PySem.W.kitOne K (.ref D) cv = some b ∧ Q (.bl b) H
theorem call_isN {X : Cx} {a D : Addr} {oe : Obj} {cls : Value} {d : Option Addr} {pn : List (Addr × Obj)} (C : ExcA X.K D) (hz : Zc cls d oe) (hf : ∃ vs, oe.data = .fields vs) :
    CallR (X.suite a ((a, oe) :: pn)) (.builtin "isinstance") (rIsN X.K D a cls d) := by
  intro pins s σ H xs us Q I r h
  obtain ⟨c, cv, b, e0, ec, ed, kc, e, q⟩ := h
  subst ec
  subst ed
  exact call_isE C.excC hz hf pins s σ H xs us Q I r ⟨c, cv, b, e0, fun u ru => kc.eq ru, e, q⟩
end AK
namespace AK
open PySem PySem.Spec PyProof.Rows L2
/-- a def whose code object stands at c -/
theorem FunC.okC {P : Program} {w : World} {K : PySem.W.Frag} {mg : Str → Option Value} {base : Heap} {x qual : Str} {st : Stmt} {f c : Addr} {fd : FuncData} {N ps : List Str} {k : Nat} {sp : Sp} (F : FunC K x qual st f fd c) (S : FnScope N ps (defScope st))
    (hlen : ∀ vs H Q E, sp vs H Q E → vs.length = ps.length)
    (body : ∀ (A : Around) (outer : List Env) (s : Shared) (H : Hp) (vs : List V) (Q : VK) (E : XK), Room k (A.deeper (envOfC qual (defScope st) s.heap.objs.size f (.ref c))) → sp vs H Q E →
      ∃ t, PSs (cxOf (L2.CX P w) P w K mg base N qual (defScope st) f (.ref c) A outer s H E) (defBody st) t ∧ t { nx := fun _ H' => Q .non H', rt := Q } (start N vs) H) : FnOk P w K mg base (L2.CX P w) (k + 1) f fd ps sp := by
  obtain ⟨oc, od, kV, doc, pm, an, ct, osl, rfl, lk, hcd⟩ := F.ex
  exact fn_of lk hcd S hlen fun A outer s H vs Q E hr hsp => body A outer s H vs Q E hr hsp
end AK
set_option Elab.async false
set_option linter.all false
set_option maxRecDepth 100000
set_option maxHeartbeats 4000000
namespace AK
open PySem PySem.Spec PyProof.Rows L2
/-! ### texts -/
def tx (l : List Nat) : Str := ⟨l.toArray⟩
abbrev lt (z : Str) : List Nat := z.cps.toList
theorem lt_tx (l : List Nat) : lt (tx l) = l := rfl
theorem tx_lt (z : Str) : tx (lt z) = z := by
  obtain ⟨⟨l⟩⟩ := z
  rfl
theorem len_tx (l : List Nat) : (tx l).length = l.length := rfl
theorem len_lt (z : Str) : (lt z).length = z.length := by
  obtain ⟨⟨l⟩⟩ := z
  rfl
theorem tx_inj {l m : List Nat} (h : tx l = tx m) : l = m := by
  have e := congrArg lt h
  exact e
theorem cut_take (z : Str) (n : Nat) : cutS z none (some (n : Int)) = tx ((lt z).take n) := by
  unfold cutS tx
  have h0 : HT.sIx z.length 0 none = 0 := rfl
  have h1 : HT.sIx z.length z.length (some (n : Int)) = min n z.length := by
    unfold HT.sIx
    simp only
    split <;> omega
  rw [h0, h1, List.drop_zero, Nat.sub_zero]
  congr 2
  rw [← len_lt z]
  by_cases h : n ≤ (lt z).length
  · rw [Nat.min_eq_left h]
  · rw [Nat.min_eq_right (Nat.le_of_not_le h), List.take_of_length_le (Nat.le_refl _), List.take_of_length_le (Nat.le_of_not_le h)]
/-- the letters behind the sign c -/
def after (b : List Nat) (c : Nat) : List Nat := (b.dropWhile (fun x => decide (x ≠ c))).drop 1
/-- ascending, by the letters b -/
def asc : List Nat → List Nat → Bool
  | _, [] => true
  | b, c :: t => decide (c ∈ b) && asc (after b c) t
theorem asc_nil (b : List Nat) : asc b [] = true := by
  unfold asc
  rfl
theorem asc_cons (b : List Nat) (c : Nat) (t : List Nat) : asc b (c :: t) = (decide (c ∈ b) && asc (after b c) t) := by
  rw [asc]
theorem split_at {b : List Nat} {c : Nat} (h : c ∈ b) : ∃ p q, b = p ++ c :: q ∧ c ∉ p ∧ after b c = q := by
  induction b with
  | nil => cases h
  | cons x r ih =>
    by_cases e : x = c
    · subst e
      refine ⟨[], r, rfl, by simp, ?_⟩
      unfold after
      simp
    · have h' : c ∈ r := by
        rcases List.mem_cons.mp h with z | z
        · exact absurd z.symm e
        · exact z
      obtain ⟨p, q, e1, e2, e3⟩ := ih h'
      refine ⟨x :: p, q, by rw [e1]; rfl, ?_, ?_⟩
      · intro z
        rcases List.mem_cons.mp z with z | z
        · exact e z.symm
        · exact e2 z
      · unfold after at e3 ⊢
        rw [List.dropWhile_cons_of_pos (by simpa using e)]
        exact e3
theorem part_after {b : List Nat} {c : Nat} (h : c ∈ b) : (Txt.partition (tx b) (tx [c])).2.2 = tx (after b c) := by
  obtain ⟨p, q, e1, e2, e3⟩ := split_at h
  have e : tx b = tx p ++ tx [c] ++ tx q := by
    rw [e1]
    show tx (p ++ c :: q) = (⟨(p.toArray ++ [c].toArray) ++ q.toArray⟩ : Str)
    unfold tx
    congr 1
    simp
  rw [e, TL.partition_app (s := c) (S := []) rfl (by show c ∉ p; exact e2), e3]
theorem after_len (b : List Nat) (c : Nat) : (after b c).length ≤ b.length := by
  unfold after
  rw [List.length_drop]
  have := (List.dropWhile_sublist (l := b) (fun x => decide (x ≠ c))).length_le
  omega
/-! ### readings that ask H itself -/
section
variable {X : Cx}
def gTupH (n : Nat) (t : TGs) : TG := fun v σ H Q => ∃ a xs, v = .ref a ∧ H a = some (.tup xs) ∧ xs.length = n ∧ t xs σ H Q
theorem pg_tupH {es : List Expr} {k : Nat} {t : TGs} {n : Nat} (hc : X.calm = true) (h : PGs X es t)
    (hn : (assignEach es X.env).length = n := by rfl) (hst : (assignEach es X.env).findIdx? (·.1) = none := by rfl) : PG X (.Tuple es k pos) (gTupH n t) :=
  ⟨fun pins s σ H v u Q I r hw => (pg_tup hc h hn hst).run pins s σ H v u Q I r (by
    obtain ⟨a, xs, e1, e2, e3, e4⟩ := hw
    exact ⟨a, xs, e1, SqT.of e2, e3, e4⟩)⟩
/-- xs[i] of a list or a tuple -/
def hIxB : R2 := fun x y H Q => ∃ p xs i v, x = .ref p ∧ y = .int i ∧ RowAt H p xs ∧ atI xs i = some v ∧ Q v H
theorem ixHB : IxR X hIxB := by
  intro ve se pins s σ H x y v u Q I rx ry ⟨p, xs, i, w, h1, h2, h3, h4, h5⟩
  rcases h3 with h3 | h3
  · exact ixH ve se pins s σ H x y v u Q I rx ry ⟨p, xs, i, w, h1, h2, h3, h4, h5⟩
  · exact ixHT ve se pins s σ H x y v u Q I rx ry ⟨p, xs, i, w, h1, h2, h3, h4, h5⟩
end
theorem free_no {l : List (Str × NameKind)} (h : l.all (fun y => !decide (y.2 = .free)) = true) : ∀ y ∈ l, y.2 = .free → False := fun y hy e => by
  have z := List.all_eq_true.mp h y hy
  rw [e] at z
  simp at z
theorem sizeLe {n : Nat} (h : n ≤ 1000) : n ≤ sizeLine := Nat.le_of_lt (small1000 h)
theorem gen_same {H H' : Hp} {d : Addr} {o : HO} (n : H d = none) (g : upd H d o = H') : Same H H' := by
  rw [← g]
  exact same_new n
theorem gen_at {H H' : Hp} {d : Addr} {o : HO} (g : upd H d o = H') : H' d = some o := by
  rw [← g]
  exact upd_same
end AK
set_option Elab.async false
set_option linter.all false
set_option maxRecDepth 100000
set_option maxHeartbeats 4000000
namespace AK
open PySem PySem.Spec PyProof.Rows L2
theorem fun_of {K : PySem.W.Frag} {x qual : Str} {st : Stmt} {f : Addr} {fd : FuncData} (F : FunD K x qual (defArgs st) (defBody st) (defScope st) [] [] f fd) : Fun K x qual st f fd := by
  obtain ⟨oc, od, dV, kV, doc, pm, an, cdv, ct, osl, e, lk, hc, hd, _⟩ := F.ex
  rcases hd with ⟨_, rfl⟩ | ⟨z, _⟩
  · exact ⟨⟨oc, od, kV, doc, pm, an, cdv, ct, osl, e, lk, hc⟩, F.kp⟩
  · exact absurd rfl z
theorem funC_of {K : PySem.W.Frag} {x qual : Str} {st : Stmt} {p : Str × Option Str} {fd : FuncData} (F : FunD K x qual (defArgs st) (defBody st) (defScope st) [] [] (He.fAd K p) fd) : FunC K x qual st (He.fAd K p) fd (He.cT K p).1 := by
  obtain ⟨oc, od, kV, doc, pm, an, cdv, ct, osl, e, lk, hc⟩ := (fun_of F).ex
  obtain ⟨c, rfl⟩ := He.codeIn_ref hc
  have z : He.codeOf K p = c := He.codeOf_eq lk (by rw [e])
  rw [show (He.cT K p).1 = c from z]
  exact ⟨oc, od, kV, doc, pm, an, ct, osl, e, lk, hc⟩
/-- the facts of an exception class, asked -/
theorem excB_ok {K : PySem.W.Frag} {C : Addr} (h : excB K C = true) : ExcA K C := by
  obtain ⟨h1, h⟩ := He.ba h
  obtain ⟨h2, h⟩ := He.ba h
  obtain ⟨h3, h⟩ := He.ba h
  obtain ⟨h4, h⟩ := He.ba h
  obtain ⟨h5, h⟩ := He.ba h
  obtain ⟨h6, h⟩ := He.ba h
  obtain ⟨h7, h⟩ := He.ba h
  obtain ⟨h8, h⟩ := He.ba h
  obtain ⟨h9, h⟩ := He.ba h
  obtain ⟨h10, h11⟩ := He.ba h
  exact ⟨He.eqO_ok h1, He.eqO_ok h2, of_decide_eq_true h3, h4, He.eqO_ok h5, He.eqO_ok h6, of_decide_eq_true h7, of_decide_eq_true h8, of_decide_eq_true h9, h10, of_decide_eq_true h11⟩
/-- a class over ValueError with an __init__ of its own -/
theorem ownB_ok {C : Addr} : ∀ {o : Obj}, ownB C o = true → ∃ nm q N bs bm sn sub ab col dd k0 k1 k2 k3 k5, o = excClassObj nm q C N bs bm true sn sub ab col dd k0 k1 k2 k3 k5 "ValueError.__new__" ∧ PySem.HandSPX.refsVE bm = true := by
  intro o h
  unfold ownB at h
  split at h
  · rename_i t dd cd sl
    obtain ⟨h0, h⟩ := He.ba h
    have h0 := of_decide_eq_true h0
    subst h0
    split at h
    · rename_i D bm k0 k1 k2 k3 n k5 hm hs
      try obtain ⟨_, h⟩ := He.ba h
      obtain ⟨h1, h⟩ := He.ba h
      obtain ⟨h2, h⟩ := He.ba h
      obtain ⟨h3, h⟩ := He.ba h
      obtain ⟨h4, h5⟩ := He.ba h
      have h1 := of_decide_eq_true h1
      have h2 := of_decide_eq_true h2
      subst h1 h2
      obtain ⟨nm, bs, mro, ns, qn, hd, sn, sub, ab, col, del⟩ := cd
      dsimp only at hm h3 h4
      subst hm
      have hdel : del = false := by
        cases del with
        | false => rfl
        | true => cases h3
      subst hdel
      have hhd : hd = true := h4
      subst hhd
      have hsl : sl = #[k0, k1, k2, k3, some (.builtin "ValueError.__new__"), k5] := by
        obtain ⟨l⟩ := sl
        simp only at hs
        rw [hs]
      subst hsl
      exact ⟨nm, qn, ns, bs, bm, sn, sub, ab, col, dd, k0, k1, k2, k3, k5, rfl, h5⟩
    · first | (cases h) | (obtain ⟨_, h⟩ := He.ba h; cases h)
  · cases h
theorem oexB_ok {K : PySem.W.Frag} {C : Addr} (h : oexB K C = true) (x : ExcA K C) : OexC K C := by
  obtain ⟨h1, h2⟩ := He.ba h
  cases e : K.lookup C with
  | none =>
    rw [e] at h1
    cases h1
  | some o =>
    rw [e] at h1
    obtain ⟨nm, q, N, bs, bm, sn, sub, ab, col, dd, k0, k1, k2, k3, k5, rfl, hb⟩ := ownB_ok h1
    exact ⟨⟨nm, q, N, bs, bm, sn, sub, ab, col, dd, k0, k1, k2, k3, k5, e, hb⟩, He.eqO_ok h2, x.ex, x.ty, x.kp⟩
theorem Same.tr {G H H' : Hp} (a : Same G H) (b : Same H H') : Same G H' := fun x o e => b x o (a x o e)
end AK
set_option Elab.async false
set_option linter.all false
namespace AK
/-! ### what parities span, in numbers -/
def Top (r k : Nat) : Prop := r.testBit k = true ∧ ∀ j, k < j → r.testBit j = false
theorem top_ex (r : Nat) (h : r ≠ 0) : ∃ k, Top r k := by
  induction r using Nat.strongRecOn with
  | ind r ih =>
    by_cases h2 : r / 2 = 0
    · have e : r = 1 := by omega
      subst e
      refine ⟨0, rfl, fun j hj => ?_⟩
      obtain ⟨j, rfl⟩ : ∃ i, j = i + 1 := ⟨j - 1, by omega⟩
      rw [Nat.testBit_succ, show 1 / 2 = 0 from rfl, Nat.zero_testBit]
    · obtain ⟨k, h3, h4⟩ := ih (r / 2) (by omega) h2
      refine ⟨k + 1, by rw [Nat.testBit_succ]; exact h3, fun j hj => ?_⟩
      obtain ⟨j, rfl⟩ : ∃ i, j = i + 1 := ⟨j - 1, by omega⟩
      rw [Nat.testBit_succ]
      exact h4 j (by omega)
theorem xor_self_r (x r : Nat) : (x ^^^ r) ^^^ r = x := by rw [Nat.xor_assoc, Nat.xor_self, Nat.xor_zero]
theorem lt_bit : ∀ (i x y : Nat), x.testBit i = false → y.testBit i = true → (∀ j, i < j → x.testBit j = y.testBit j) → x < y
  | 0, x, y, h1, h2, h => by
    have e : x / 2 = y / 2 := Nat.eq_of_testBit_eq fun j => by
      rw [← Nat.testBit_succ, ← Nat.testBit_succ]
      exact h _ (by omega)
    rw [Nat.testBit_zero] at h1 h2
    have h1 : ¬ x % 2 = 1 := of_decide_eq_false h1
    have h2 : y % 2 = 1 := of_decide_eq_true h2
    omega
  | i + 1, x, y, h1, h2, h => by
    rw [Nat.testBit_succ] at h1 h2
    have z := lt_bit i (x / 2) (y / 2) h1 h2 fun j hj => by
      rw [← Nat.testBit_succ, ← Nat.testBit_succ]
      exact h _ (by omega)
    omega
def cl (r m : Nat) : Nat := if m ^^^ r < m then m ^^^ r else m
theorem cl_top {r k : Nat} (t : Top r k) (m : Nat) : cl r m = if m.testBit k = true then m ^^^ r else m := by
  unfold cl
  by_cases h : m.testBit k = true
  · rw [if_pos h, if_pos]
    refine lt_bit k _ _ ?_ h fun j hj => ?_
    · rw [Nat.testBit_xor, h, t.1]; rfl
    · rw [Nat.testBit_xor, t.2 j hj, Bool.xor_false]
  · rw [if_neg h, if_neg]
    have h' : m.testBit k = false := by simpa using h
    have z : m < m ^^^ r := by
      refine lt_bit k _ _ h' ?_ fun j hj => ?_
      · rw [Nat.testBit_xor, h', t.1]; rfl
      · rw [Nat.testBit_xor, t.2 j hj, Bool.xor_false]
    omega
theorem cl_or (r m : Nat) : cl r m = m ∨ cl r m = m ^^^ r := by
  unfold cl
  split
  · exact .inr rfl
  · exact .inl rfl
def rem : List Nat → Nat → Nat
  | [], m => m
  | r :: R, m => rem R (cl r m)
def S : List Nat → Nat → Prop
  | [], x => x = 0
  | r :: R, x => S R x ∨ S R (x ^^^ r)
def good : List Nat → Prop
  | [] => True
  | r :: R => ∃ k, Top r k ∧ (∀ q ∈ R, q.testBit k = false) ∧ good R
def clean : List Nat → Nat → Prop
  | [], _ => True
  | r :: R, x => (∀ k, Top r k → x.testBit k = false) ∧ clean R x
theorem rem_keep : ∀ (R : List Nat) (m k : Nat), (∀ q ∈ R, q.testBit k = false) → (rem R m).testBit k = m.testBit k
  | [], _, _, _ => rfl
  | r :: R, m, k, h => by
    have z := rem_keep R (cl r m) k fun q hq => h q (List.mem_cons_of_mem _ hq)
    rw [show rem (r :: R) m = rem R (cl r m) from rfl, z]
    rcases cl_or r m with e | e
    · rw [e]
    · rw [e, Nat.testBit_xor, h r List.mem_cons_self, Bool.xor_false]
theorem S_zero : ∀ R, S R 0
  | [] => rfl
  | _ :: R => .inl (S_zero R)
theorem S_xor : ∀ (R : List Nat) (x y : Nat), S R x → S R y → S R (x ^^^ y)
  | [], x, y, hx, hy => by
    have hx : x = 0 := hx
    have hy : y = 0 := hy
    subst hx; subst hy; rfl
  | r :: R, x, y, hx, hy => by
    rcases hx with hx | hx <;> rcases hy with hy | hy
    · exact .inl (S_xor R x y hx hy)
    · refine .inr ?_
      rw [Nat.xor_assoc]
      exact S_xor R _ _ hx hy
    · refine .inr ?_
      rw [Nat.xor_assoc, Nat.xor_comm y r, ← Nat.xor_assoc]
      exact S_xor R _ _ hx hy
    · refine .inl ?_
      have z := S_xor R _ _ hx hy
      rw [show x ^^^ r ^^^ (y ^^^ r) = x ^^^ y from by rw [Nat.xor_comm y r, ← Nat.xor_assoc, xor_self_r]] at z
      exact z
theorem S_mem : ∀ (R : List Nat) (m : Nat), m ∈ R → S R m
  | r :: R, m, h => by
    rcases List.mem_cons.mp h with e | h
    · refine .inr ?_
      rw [e, Nat.xor_self]
      exact S_zero R
    · exact .inl (S_mem R m h)
theorem S_sub {R T : List Nat} : (∀ m ∈ R, S T m) → ∀ x, S R x → S T x := by
  induction R with
  | nil =>
    intro _ x hx
    rw [show x = 0 from hx]
    exact S_zero T
  | cons r R ih =>
    intro h x hx
    have ih := ih fun m hm => h m (List.mem_cons_of_mem _ hm)
    rcases hx with hx | hx
    · exact ih x hx
    · have z := S_xor T _ _ (ih _ hx) (h r List.mem_cons_self)
      rw [xor_self_r] at z
      exact z
theorem rem_S : ∀ (R : List Nat) (m : Nat), S R (m ^^^ rem R m)
  | [], m => by show m ^^^ m = 0; exact Nat.xor_self m
  | r :: R, m => by
    have z := rem_S R (cl r m)
    rw [show rem (r :: R) m = rem R (cl r m) from rfl]
    rcases cl_or r m with e | e
    · rw [e] at z ⊢
      exact .inl z
    · refine .inr ?_
      rw [e] at z ⊢
      rw [show m ^^^ rem R (m ^^^ r) ^^^ r = m ^^^ r ^^^ rem R (m ^^^ r) from by rw [Nat.xor_assoc, Nat.xor_comm (rem R (m ^^^ r)) r, ← Nat.xor_assoc]]
      exact z
theorem clean_rem : ∀ (R : List Nat) (m : Nat), good R → clean R (rem R m)
  | [], _, _ => trivial
  | r :: R, m, ⟨k, t, hk, g⟩ => by
    refine ⟨fun j tj => ?_, clean_rem R _ g⟩
    have ej : j = k := by
      rcases Nat.lt_trichotomy j k with h | h | h
      · have := tj.2 k h
        rw [t.1] at this
        exact absurd this (by decide)
      · exact h
      · have := t.2 j h
        rw [tj.1] at this
        exact absurd this (by decide)
    subst ej
    rw [show rem (r :: R) m = rem R (cl r m) from rfl, rem_keep R _ _ hk, cl_top t]
    split
    · rename_i h
      rw [Nat.testBit_xor, h, t.1]; rfl
    · rename_i h
      simpa using h
theorem S_bit : ∀ (R : List Nat) (k x : Nat), (∀ q ∈ R, q.testBit k = false) → S R x → x.testBit k = false
  | [], k, x, _, hx => by
    rw [show x = 0 from hx, Nat.zero_testBit]
  | r :: R, k, x, h, hx => by
    have h' : ∀ q ∈ R, q.testBit k = false := fun q hq => h q (List.mem_cons_of_mem _ hq)
    rcases hx with hx | hx
    · exact S_bit R k x h' hx
    · have z := S_bit R k _ h' hx
      rw [Nat.testBit_xor, h r List.mem_cons_self, Bool.xor_false] at z
      exact z
theorem S_clean : ∀ (R : List Nat) (x : Nat), good R → S R x → clean R x → x = 0
  | [], _, _, h, _ => h
  | r :: R, x, ⟨k, t, hk, g⟩, hx, hc => by
    rcases hx with hx | hx
    · exact S_clean R x g hx hc.2
    · have z := S_bit R k _ hk hx
      rw [Nat.testBit_xor, hc.1 k t, t.1] at z
      exact absurd z (by decide)
theorem rem_zero {R : List Nat} (g : good R) (m : Nat) : rem R m = 0 ↔ S R m := by
  constructor
  · intro e
    have z := rem_S R m
    rw [e, Nat.xor_zero] at z
    exact z
  · intro h
    refine S_clean R _ g ?_ (clean_rem R m g)
    have z := S_xor R _ _ h (rem_S R m)
    rw [← Nat.xor_assoc, Nat.xor_self, Nat.zero_xor] at z
    exact z
theorem S_snoc : ∀ (R : List Nat) (r x : Nat), S (R ++ [r]) x ↔ S R x ∨ S R (x ^^^ r)
  | [], r, x => Iff.rfl
  | q :: R, r, x => by
    show S (R ++ [r]) x ∨ S (R ++ [r]) (x ^^^ q) ↔ (S R x ∨ S R (x ^^^ q)) ∨ (S R (x ^^^ r) ∨ S R (x ^^^ r ^^^ q))
    rw [S_snoc R r x, S_snoc R r (x ^^^ q), show x ^^^ q ^^^ r = x ^^^ r ^^^ q from by rw [Nat.xor_assoc, Nat.xor_comm q r, ← Nat.xor_assoc]]
    constructor
    · rintro ((h | h) | (h | h))
      · exact .inl (.inl h)
      · exact .inr (.inl h)
      · exact .inl (.inr h)
      · exact .inr (.inr h)
    · rintro ((h | h) | (h | h))
      · exact .inl (.inl h)
      · exact .inr (.inl h)
      · exact .inl (.inr h)
      · exact .inr (.inr h)
theorem good_snoc : ∀ (R : List Nat) (r : Nat), good R → clean R r → r ≠ 0 → good (R ++ [r])
  | [], r, _, _, h => by
    obtain ⟨k, t⟩ := top_ex r h
    exact ⟨k, t, fun q hq => (List.not_mem_nil hq).elim, trivial⟩
  | q :: R, r, ⟨k, t, hk, g⟩, hc, h => by
    refine ⟨k, t, fun p hp => ?_, good_snoc R r g hc.2 h⟩
    rcases List.mem_append.mp hp with hp | hp
    · exact hk p hp
    · rw [List.mem_singleton.mp hp]
      exact hc.1 k t
/-- one message more -/
def sp (R : List Nat) (m : Nat) : List Nat := if rem R m = 0 then R else R ++ [rem R m]
theorem good_sp {R : List Nat} (g : good R) (m : Nat) : good (sp R m) := by
  unfold sp
  split
  · exact g
  · rename_i h
    exact good_snoc R _ g (clean_rem R m g) h
theorem S_sp {R : List Nat} (g : good R) (m x : Nat) : S (sp R m) x ↔ S R x ∨ S R (x ^^^ m) := by
  unfold sp
  split
  · rename_i h
    have hm := (rem_zero g m).mp h
    constructor
    · exact .inl
    · rintro (h | h)
      · exact h
      · have z := S_xor R _ _ h hm
        rw [xor_self_r] at z
        exact z
  · rw [S_snoc]
    have e : ∀ a b c : Nat, a ^^^ b ^^^ (c ^^^ b) = a ^^^ c := fun a b c => by rw [Nat.xor_comm c b, ← Nat.xor_assoc, xor_self_r]
    constructor
    · rintro (h | h)
      · exact .inl h
      · refine .inr ?_
        have z := S_xor R _ _ h (rem_S R m)
        rw [e] at z
        exact z
    · rintro (h | h)
      · exact .inl h
      · refine .inr ?_
        have z := S_xor R _ _ h (rem_S R m)
        rw [show x ^^^ m ^^^ (m ^^^ rem R m) = x ^^^ rem R m from by rw [← Nat.xor_assoc, xor_self_r]] at z
        exact z
def spn (ms R : List Nat) : List Nat := ms.foldl sp R
theorem good_spn : ∀ (ms R : List Nat), good R → good (spn ms R)
  | [], _, g => g
  | m :: ms, R, g => good_spn ms _ (good_sp g m)
theorem S_app : ∀ (A B : List Nat) (x : Nat), S (A ++ B) x ↔ ∃ y, S A y ∧ S B (x ^^^ y)
  | [], B, x => by
    constructor
    · intro h
      exact ⟨0, rfl, by rw [Nat.xor_zero]; exact h⟩
    · rintro ⟨y, e, h⟩
      rw [show y = 0 from e, Nat.xor_zero] at h
      exact h
  | a :: A, B, x => by
    show S (A ++ B) x ∨ S (A ++ B) (x ^^^ a) ↔ _
    rw [S_app A B x, S_app A B (x ^^^ a)]
    constructor
    · rintro (⟨y, h1, h2⟩ | ⟨y, h1, h2⟩)
      · exact ⟨y, .inl h1, h2⟩
      · refine ⟨y ^^^ a, .inr (by rw [xor_self_r]; exact h1), ?_⟩
        rw [Nat.xor_comm y a, ← Nat.xor_assoc]
        exact h2
    · rintro ⟨y, h1 | h1, h2⟩
      · exact .inl ⟨y, h1, h2⟩
      · refine .inr ⟨y ^^^ a, h1, ?_⟩
        rw [show x ^^^ a ^^^ (y ^^^ a) = x ^^^ y from by rw [Nat.xor_comm y a, ← Nat.xor_assoc, xor_self_r]]
        exact h2
theorem S_comm (A B : List Nat) (x : Nat) : S (A ++ B) x ↔ S (B ++ A) x := by
  rw [S_app, S_app]
  constructor
  · rintro ⟨y, h1, h2⟩
    exact ⟨x ^^^ y, h2, by rw [← Nat.xor_assoc, Nat.xor_self, Nat.zero_xor]; exact h1⟩
  · rintro ⟨y, h1, h2⟩
    exact ⟨x ^^^ y, h2, by rw [← Nat.xor_assoc, Nat.xor_self, Nat.zero_xor]; exact h1⟩
theorem S_left {A : List Nat} (B : List Nat) {x : Nat} (h : S A x) : S (A ++ B) x := (S_app A B x).mpr ⟨x, h, by rw [Nat.xor_self]; exact S_zero B⟩
theorem S_right (A : List Nat) {B : List Nat} {x : Nat} (h : S B x) : S (A ++ B) x := (S_comm A B x).mpr (S_left A h)
theorem S_spn : ∀ (ms R : List Nat) (x : Nat), good R → (S (spn ms R) x ↔ S (R ++ ms) x)
  | [], R, x, _ => by rw [List.append_nil]; exact Iff.rfl
  | m :: ms, R, x, g => by
    show S (spn ms (sp R m)) x ↔ _
    rw [S_spn ms _ x (good_sp g m), S_app, S_app]
    constructor
    · rintro ⟨y, h1, h2⟩
      rcases (S_sp g m y).mp h1 with h | h
      · exact ⟨y, h, .inl h2⟩
      · refine ⟨y ^^^ m, h, .inr ?_⟩
        rw [show x ^^^ (y ^^^ m) ^^^ m = x ^^^ y from by rw [← Nat.xor_assoc, xor_self_r]]
        exact h2
    · rintro ⟨y, h1, h2 | h2⟩
      · exact ⟨y, (S_sp g m y).mpr (.inl h1), h2⟩
      · refine ⟨y ^^^ m, (S_sp g m _).mpr (.inr (by rw [xor_self_r]; exact h1)), ?_⟩
        rw [← Nat.xor_assoc]
        exact h2
theorem S_spn0 (ms : List Nat) (x : Nat) : S (spn ms []) x ↔ S ms x := S_spn ms [] x trivial
/-! ### all sums, as a list -/
def dstep (F : List Nat) (m : Nat) : List Nat := if m ∈ F then F else F ++ F.map (· ^^^ m)
def der (ms : List Nat) : List Nat := ms.foldl dstep [0]
structure Rep (R F : List Nat) : Prop where
  g : good R
  m : ∀ x, x ∈ F ↔ S R x
  n : F.Nodup
  l : F.length = 2 ^ R.length
theorem rep0 : Rep [] [0] := ⟨trivial, fun x => by simp [S], by simp, rfl⟩
theorem rep_step {R F : List Nat} (h : Rep R F) (m : Nat) : Rep (sp R m) (dstep F m) := by
  refine ⟨good_sp h.g m, fun x => ?_, ?_, ?_⟩
  · rw [S_sp h.g, ← h.m, ← h.m]
    unfold dstep
    split
    · rename_i hm
      constructor
      · exact .inl
      · rintro (h1 | h1)
        · exact h1
        · rw [h.m] at h1 hm ⊢
          have z := S_xor R _ _ h1 hm
          rw [xor_self_r] at z
          exact z
    · rw [List.mem_append, List.mem_map]
      constructor
      · rintro (h1 | ⟨y, h1, rfl⟩)
        · exact .inl h1
        · exact .inr (by rw [xor_self_r]; exact h1)
      · rintro (h1 | h1)
        · exact .inl h1
        · exact .inr ⟨_, h1, xor_self_r x m⟩
  · unfold dstep
    split
    · exact h.n
    · rename_i hm
      refine List.nodup_append.mpr ⟨h.n, ?_, ?_⟩
      · refine List.pairwise_map.mpr (h.n.imp fun {a b} hab e => hab ?_)
        have z := congrArg (· ^^^ m) e
        simp only [xor_self_r] at z
        exact z
      · rintro a ha b hb rfl
        obtain ⟨y, hy, e⟩ := List.mem_map.mp hb
        refine hm ((h.m m).mpr ?_)
        have z := S_xor R _ _ ((h.m y).mp hy) ((h.m a).mp ha)
        rw [← e, ← Nat.xor_assoc, Nat.xor_self, Nat.zero_xor] at z
        exact z
  · unfold dstep sp
    by_cases hm : m ∈ F
    · rw [if_pos hm, if_pos ((rem_zero h.g m).mpr ((h.m m).mp hm))]
      exact h.l
    · rw [if_neg hm, if_neg fun e => hm ((h.m m).mpr ((rem_zero h.g m).mp e)), List.length_append, List.length_map, List.length_append, h.l, List.length_singleton, Nat.pow_succ]
      omega
theorem rep_fold : ∀ (ms : List Nat) {R F : List Nat}, Rep R F → Rep (spn ms R) (ms.foldl dstep F)
  | [], _, _, h => h
  | m :: ms, _, _, h => rep_fold ms (rep_step h m)
theorem rep (ms : List Nat) : Rep (spn ms []) (der ms) := rep_fold ms rep0
theorem der_mem (ms : List Nat) (x : Nat) : x ∈ der ms ↔ S ms x := ((rep ms).m x).trans (S_spn0 ms x)
/-! ### how many -/
theorem nodup_le : ∀ {F G : List Nat}, F.Nodup → (∀ x ∈ F, x ∈ G) → F.length ≤ G.length
  | [], G, _, _ => Nat.zero_le _
  | x :: F, G, n, h => by
    have hx := h x List.mem_cons_self
    have n' := List.nodup_cons.mp n
    have z := nodup_le (G := G.erase x) n'.2 fun y hy => by
      refine (List.mem_erase_of_ne (show y ≠ x from fun e => n'.1 (e ▸ hy))).mpr (h y (List.mem_cons_of_mem _ hy))
    rw [List.length_erase_of_mem hx] at z
    have p := List.length_pos_of_mem hx
    simp only [List.length_cons]
    omega
theorem nodup_all {F G : List Nat} (n : F.Nodup) (h : ∀ x ∈ F, x ∈ G) (l : G.length ≤ F.length) : ∀ x ∈ G, x ∈ F := by
  intro x hx
  by_cases hf : x ∈ F
  · exact hf
  · have z := nodup_le (F := x :: F) (G := G) (List.nodup_cons.mpr ⟨hf, n⟩) fun y hy => by
      rcases List.mem_cons.mp hy with e | hy
      · rw [e]
        exact hx
      · exact h y hy
    simp only [List.length_cons] at z
    omega
theorem rep_le {R F T G : List Nat} (h : Rep R F) (k : Rep T G) (s : ∀ x, S R x → S T x) : R.length ≤ T.length := by
  have z := nodup_le h.n fun x hx => (k.m x).mpr (s x ((h.m x).mp hx))
  rw [h.l, k.l] at z
  exact (Nat.pow_le_pow_iff_right (by decide)).mp z
theorem rep_eq {R F T G : List Nat} (h : Rep R F) (k : Rep T G) (s : ∀ x, S R x → S T x) (e : T.length ≤ R.length) : ∀ x, S T x → S R x := by
  intro x hx
  refine (h.m x).mp (nodup_all h.n (fun x hx => (k.m x).mpr (s x ((h.m x).mp hx))) ?_ x ((k.m x).mpr hx))
  rw [h.l, k.l]
  exact Nat.pow_le_pow_right (by decide) e
def rank (ms : List Nat) : Nat := (spn ms []).length
theorem rank_le {A B : List Nat} (s : ∀ x, S A x → S B x) : rank A ≤ rank B := rep_le (rep A) (rep B) fun x h => (S_spn0 B x).mpr (s x ((S_spn0 A x).mp h))
theorem rank_eq {A B : List Nat} (s : ∀ x, S A x → S B x) (e : rank B ≤ rank A) : ∀ x, S B x → S A x := fun x h =>
  (S_spn0 A x).mp (rep_eq (rep A) (rep B) (fun x h => (S_spn0 B x).mpr (s x ((S_spn0 A x).mp h))) e x ((S_spn0 B x).mpr h))
theorem rank_comm (A B : List Nat) : rank (A ++ B) = rank (B ++ A) := Nat.le_antisymm (rank_le fun x h => (S_comm A B x).mp h) (rank_le fun x h => (S_comm A B x).mpr h)
theorem spn_app (A B R : List Nat) : spn (A ++ B) R = spn B (spn A R) := List.foldl_append
theorem spn_le : ∀ (B C D : List Nat), good C → good D → (∀ x, S C x → S D x) → (spn B D).length + C.length ≤ (spn B C).length + D.length
  | [], C, D, _, _, _ => by show D.length + C.length ≤ C.length + D.length; omega
  | m :: B, C, D, gc, gd, s => by
    have ih := spn_le B (sp C m) (sp D m) (good_sp gc m) (good_sp gd m) fun x h => by
      rw [S_sp gd]
      rcases (S_sp gc m x).mp h with h | h
      · exact .inl (s _ h)
      · exact .inr (s _ h)
    show (spn B (sp D m)).length + _ ≤ (spn B (sp C m)).length + _
    have e : (sp D m).length + C.length ≤ (sp C m).length + D.length := by
      unfold sp
      by_cases h : rem C m = 0
      · have h2 : rem D m = 0 := (rem_zero gd m).mpr (s m ((rem_zero gc m).mp h))
        rw [if_pos h, if_pos h2]
        omega
      · rw [if_neg h]
        split
        · rw [List.length_append]; omega
        · rw [List.length_append, List.length_append, List.length_singleton, List.length_singleton]; omega
    omega
theorem rank_add (A B : List Nat) : rank (A ++ B) ≤ rank A + rank B := by
  have z := spn_le B [] (spn A []) trivial (good_spn A [] trivial) fun x h => by
    rw [show x = 0 from h]
    exact S_zero _
  unfold rank
  rw [spn_app]
  simp only [List.length_nil] at z
  omega
theorem spn_len : ∀ (ms R : List Nat), (spn ms R).length ≤ R.length + ms.length
  | [], R => by show R.length ≤ R.length + 0; omega
  | m :: ms, R => by
    have z := spn_len ms (sp R m)
    show (spn ms (sp R m)).length ≤ _
    have e : (sp R m).length ≤ R.length + 1 := by
      unfold sp
      split
      · omega
      · rw [List.length_append, List.length_singleton]; omega
    simp only [List.length_cons]
    omega
theorem spn_ge : ∀ (ms R : List Nat), R.length ≤ (spn ms R).length
  | [], R => Nat.le_refl _
  | m :: ms, R => by
    have z := spn_ge ms (sp R m)
    show _ ≤ (spn ms (sp R m)).length
    have e : R.length ≤ (sp R m).length := by
      unfold sp
      split
      · omega
      · rw [List.length_append]; omega
    omega
theorem rank_len (ms : List Nat) : rank ms ≤ ms.length := by
  have z := spn_len ms []
  unfold rank
  simp only [List.length_nil] at z
  omega
/-! ### the basis -/
def bas : List Nat → List Nat → Nat → List Nat
  | [], _, _ => []
  | m :: ms, R, i => if rem R m = 0 then bas ms R (i + 1) else i :: bas ms (R ++ [rem R m]) (i + 1)
def cho : List Nat → List Nat → List Nat
  | [], _ => []
  | m :: ms, R => if rem R m = 0 then cho ms R else m :: cho ms (R ++ [rem R m])
theorem bas_len : ∀ (ms R : List Nat) (i : Nat), (bas ms R i).length = (cho ms R).length
  | [], _, _ => rfl
  | m :: ms, R, i => by
    unfold bas cho
    split
    · exact bas_len ms _ _
    · rw [List.length_cons, List.length_cons, bas_len ms]
theorem cho_len : ∀ (ms R : List Nat), (cho ms R).length + R.length = (spn ms R).length
  | [], R => by show 0 + R.length = R.length; omega
  | m :: ms, R => by
    have z := cho_len ms (sp R m)
    show _ = (spn ms (sp R m)).length
    unfold cho
    unfold sp at z ⊢
    split
    · rename_i h
      rw [if_pos h] at z
      exact z
    · rename_i h
      rw [if_neg h] at z
      rw [← z, List.length_append, List.length_cons, List.length_singleton]
      omega
theorem cho_spn : ∀ (ms R : List Nat), spn (cho ms R) R = spn ms R
  | [], R => rfl
  | m :: ms, R => by
    show _ = spn ms (sp R m)
    unfold cho
    split
    · rename_i h
      rw [cho_spn ms R]
      unfold sp
      rw [if_pos h]
    · rename_i h
      show spn (cho ms _) (sp R m) = _
      have e : sp R m = R ++ [rem R m] := if_neg h
      rw [e]
      exact cho_spn ms _
theorem bas_mem : ∀ (ms R : List Nat) (i k : Nat), k ∈ bas ms R i → i ≤ k ∧ k < i + ms.length
  | [], _, _, k, h => (List.not_mem_nil h).elim
  | m :: ms, R, i, k, h => by
    unfold bas at h
    simp only [List.length_cons]
    split at h
    · have z := bas_mem ms _ _ k h
      omega
    · rcases List.mem_cons.mp h with e | h
      · omega
      · have z := bas_mem ms _ _ k h
        omega
theorem bas_all : ∀ (ms R : List Nat) (i : Nat), (∀ k, i ≤ k → k < i + ms.length → k ∈ bas ms R i) → (bas ms R i).length = ms.length
  | [], _, _, _ => rfl
  | m :: ms, R, i, h => by
    have h0 := h i (Nat.le_refl _) (by simp only [List.length_cons]; omega)
    unfold bas at h h0 ⊢
    split at h0
    · have z := bas_mem ms _ _ i h0
      omega
    · rename_i hr
      rw [if_neg hr] at h ⊢
      rw [List.length_cons, List.length_cons, bas_all ms _ (i + 1) fun k h1 h2 => ?_]
      rcases List.mem_cons.mp (h k (by omega) (by simp only [List.length_cons]; omega)) with e | h
      · omega
      · exact h
theorem bas_full : ∀ (ms R : List Nat) (i : Nat), (bas ms R i).length = ms.length → ∀ k, i ≤ k → k < i + ms.length → k ∈ bas ms R i
  | [], _, i, _, k, h1, h2 => by simp only [List.length_nil] at h2; omega
  | m :: ms, R, i, h, k, h1, h2 => by
    unfold bas at h ⊢
    simp only [List.length_cons] at h h2
    split
    · rename_i hr
      rw [if_pos hr, bas_len] at h
      have z := cho_len ms R
      have y := spn_len ms R
      omega
    · rename_i hr
      rw [if_neg hr, List.length_cons] at h
      by_cases e : k = i
      · rw [e]
        exact List.mem_cons_self
      · exact List.mem_cons_of_mem _ (bas_full ms _ (i + 1) (by omega) k (by omega) (by omega))
/-- the messages at the basis -/
theorem bas_cho : ∀ (ms R pre : List Nat), (bas ms R pre.length).map (fun k => (pre ++ ms)[k]?) = (cho ms R).map some
  | [], _, _ => rfl
  | m :: ms, R, pre => by
    have ih : ∀ T, (bas ms T (pre.length + 1)).map (fun k => (pre ++ m :: ms)[k]?) = (cho ms T).map some := fun T => by
      have z := bas_cho ms T (pre ++ [m])
      rw [List.length_append, List.length_singleton, List.append_assoc, List.singleton_append] at z
      exact z
    unfold bas cho
    split
    · exact ih _
    · rw [List.map_cons, List.map_cons, ih, List.getElem?_append_right (Nat.le_refl _), Nat.sub_self]
      rfl
/-- what can be derived from all the others -/
def oth (ms : List Nat) (i : Nat) : List Nat := ms.take i ++ ms.drop (i + 1)
def rid (ms : List Nat) (i : Nat) : Bool := decide (rem (spn (oth ms i) []) (ms.getD i 0) = 0)
def redu (ms : List Nat) : List Nat := (List.range ms.length).filter fun i => !decide (i ∈ (bas ms [] 0).filter fun k => !rid ms k)
theorem cho_rank (ms : List Nat) : (cho ms []).length = rank ms := by
  have z := cho_len ms []
  simp only [List.length_nil] at z
  exact z
theorem rank_cho (ms : List Nat) : rank (cho ms []) = (cho ms []).length := by
  unfold rank
  rw [cho_spn, cho_rank]
  rfl
theorem S_cho (ms : List Nat) (x : Nat) : S (cho ms []) x ↔ S ms x := by
  rw [← S_spn0, ← S_spn0 ms, cho_spn]
theorem oth_S {ms : List Nat} {i : Nat} (hi : i < ms.length) (h : S (oth ms i) (ms.getD i 0)) (x : Nat) (hx : S ms x) : S (oth ms i) x := by
  refine S_sub (fun m hm => ?_) x hx
  rw [← List.take_append_drop i ms, List.drop_eq_getElem_cons hi] at hm
  rcases List.mem_append.mp hm with hm | hm
  · exact S_left _ (S_mem _ _ hm)
  · rcases List.mem_cons.mp hm with e | hm
    · rw [List.getD_eq_getElem?_getD, List.getElem?_eq_getElem hi] at h
      rw [e]
      exact h
    · exact S_right _ (S_mem _ _ hm)
theorem redu_free {ms : List Nat} (h : rank ms = ms.length) : redu ms = [] := by
  refine List.filter_eq_nil_iff.mpr fun i hi => ?_
  have hi' := List.mem_range.mp hi
  have hb : i ∈ bas ms [] 0 := bas_full ms [] 0 (by rw [bas_len, cho_rank, h]) i (Nat.zero_le _) (by omega)
  have hr : rid ms i = false := by
    unfold rid
    refine decide_eq_false fun e => ?_
    have h1 := (S_spn0 _ _).mp ((rem_zero (good_spn (oth ms i) [] trivial) _).mp e)
    have h2 := rank_le (oth_S hi' h1)
    have h3 := rank_len (oth ms i)
    unfold oth at h3 h2
    rw [List.length_append, List.length_take, List.length_drop] at h3
    omega
  rw [decide_eq_true (List.mem_filter.mpr ⟨hb, by rw [hr]; rfl⟩)]
  decide
theorem redu_nil {ms : List Nat} (h : redu ms = []) : ms.length = rank ms := by
  have z := List.filter_eq_nil_iff.mp h
  rw [← cho_rank, ← bas_len ms [] 0]
  refine (bas_all ms [] 0 fun k _ hk => ?_).symm
  have y := z k (List.mem_range.mpr (by omega))
  have y : k ∈ (bas ms [] 0).filter fun k => !rid ms k := by
    simp only [Bool.not_eq_true', decide_eq_false_iff_not, Decidable.not_not] at y
    exact y
  exact (List.mem_filter.mp y).1
/-- is_equivalent -/
theorem equiv (A B : List Nat) : (rank A = rank B ∧ rank B = (spn (spn B []) (spn A [])).length) ↔ ∀ x, S A x ↔ S B x := by
  have hA := rep A
  have hB := rep B
  have hC : Rep (spn (spn B []) (spn A [])) _ := rep_fold (spn B []) (rep A)
  have sC : ∀ x, S (spn (spn B []) (spn A [])) x ↔ S (spn A [] ++ spn B []) x := fun x => S_spn _ _ x hA.g
  constructor
  · rintro ⟨e1, e2⟩ x
    have a := rep_eq hA hC (fun x h => (sC x).mpr (S_left _ h)) (by unfold rank at e1 e2; omega)
    have b := rep_eq hB hC (fun x h => (sC x).mpr (S_right _ h)) (by unfold rank at e1 e2; omega)
    constructor
    · intro h
      exact (S_spn0 B x).mp (b x ((sC x).mpr (S_left _ ((S_spn0 A x).mpr h))))
    · intro h
      exact (S_spn0 A x).mp (a x ((sC x).mpr (S_right _ ((S_spn0 B x).mpr h))))
  · intro h
    have e1 : rank A = rank B := Nat.le_antisymm (rank_le fun x => (h x).mp) (rank_le fun x => (h x).mpr)
    refine ⟨e1, ?_⟩
    have e3 : (spn (spn B []) (spn A [])).length ≤ (spn B []).length := rep_le hC hB fun x hx => by
      obtain ⟨y, h1, h2⟩ := (S_app _ _ _).mp ((sC x).mp hx)
      have h1 := (S_spn0 B y).mpr ((h y).mp ((S_spn0 A y).mp h1))
      have z := S_xor _ _ _ h2 h1
      rw [xor_self_r] at z
      exact z
    have e4 := spn_ge (spn B []) (spn A [])
    unfold rank at e1 ⊢
    omega
theorem der_lt {ms : List Nat} (h : ∀ m ∈ ms, m < 64) : ∀ x ∈ der ms, x < 64 := by
  suffices z : ∀ (ms F : List Nat), (∀ m ∈ ms, m < 64) → (∀ x ∈ F, x < 64) → ∀ x ∈ ms.foldl dstep F, x < 64 from z ms [0] h (by simp)
  intro ms
  induction ms with
  | nil => exact fun F _ hF => hF
  | cons m ms ih =>
    intro F hm hF
    refine ih _ (fun x hx => hm x (List.mem_cons_of_mem _ hx)) fun x hx => ?_
    unfold dstep at hx
    split at hx
    · exact hF x hx
    · rcases List.mem_append.mp hx with hx | hx
      · exact hF x hx
      · obtain ⟨y, hy, rfl⟩ := List.mem_map.mp hx
        exact Nat.xor_lt_two_pow (n := 6) (hF y hy) (hm m List.mem_cons_self)
theorem der_len {ms : List Nat} (h : ∀ m ∈ ms, m < 64) : (der ms).length ≤ 64 := by
  have z := nodup_le (rep ms).n (G := List.range 64) fun x hx => List.mem_range.mpr (der_lt h x hx)
  rw [List.length_range] at z
  exact z
theorem spn_take {ms : List Nat} {i m : Nat} (R : List Nat) (h : ms[i]? = some m) : spn (ms.take (i + 1)) R = sp (spn (ms.take i) R) m := by
  rw [List.take_add_one, h]
  show (List.take i ms ++ [m]).foldl sp R = _
  rw [List.foldl_append]
  rfl
theorem bas_drop {ms : List Nat} {i m : Nat} (R : List Nat) (h : ms[i]? = some m) : bas (ms.drop i) R i = if rem R m = 0 then bas (ms.drop (i + 1)) R (i + 1) else i :: bas (ms.drop (i + 1)) (R ++ [rem R m]) (i + 1) := by
  obtain ⟨hi, e⟩ := List.getElem?_eq_some_iff.mp h
  rw [← e, List.drop_eq_getElem_cons hi]
  rfl
theorem cho_sub : ∀ (ms R : List Nat), ∀ m ∈ cho ms R, m ∈ ms
  | [], _, _, h => h
  | k :: ms, R, m, h => by
    unfold cho at h
    split at h
    · exact List.mem_cons_of_mem _ (cho_sub ms _ m h)
    · rcases List.mem_cons.mp h with e | h
      · rw [e]; exact List.mem_cons_self
      · exact List.mem_cons_of_mem _ (cho_sub ms _ m h)
theorem bas_cho_at {ms : List Nat} {i k : Nat} (h : (bas ms [] 0)[i]? = some k) : ∃ m, (cho ms [])[i]? = some m ∧ ms[k]? = some m := by
  have z := bas_cho ms [] []
  have y := congrArg (·[i]?) z
  simp only [List.getElem?_map] at y
  rw [show (bas ms [] ([] : List Nat).length)[i]? = some k from h] at y
  cases e : (cho ms [])[i]? with
  | none => rw [e] at y; cases y
  | some m => rw [e] at y; exact ⟨m, rfl, Option.some.inj y⟩
end AK
set_option Elab.async false
set_option linter.all false
namespace AK
/-! ### parities under assignments -/
def par8 (n : Nat) : Bool := n.testBit 0 ^^ (n.testBit 1 ^^ (n.testBit 2 ^^ (n.testBit 3 ^^ (n.testBit 4 ^^ (n.testBit 5 ^^ (n.testBit 6 ^^ n.testBit 7))))))
def od (m a : Nat) : Bool := par8 (m &&& a)
theorem mix (a b c d : Bool) : ((a ^^ b) ^^ (c ^^ d)) = ((a ^^ c) ^^ (b ^^ d)) := by cases a <;> cases b <;> cases c <;> cases d <;> rfl
theorem par8_xor (x y : Nat) : par8 (x ^^^ y) = (par8 x ^^ par8 y) := by
  unfold par8
  simp only [Nat.testBit_xor]
  generalize x.testBit 0 = x0, x.testBit 1 = x1, x.testBit 2 = x2, x.testBit 3 = x3, x.testBit 4 = x4, x.testBit 5 = x5, x.testBit 6 = x6, x.testBit 7 = x7
  generalize y.testBit 0 = y0, y.testBit 1 = y1, y.testBit 2 = y2, y.testBit 3 = y3, y.testBit 4 = y4, y.testBit 5 = y5, y.testBit 6 = y6, y.testBit 7 = y7
  rw [mix x6 y6, mix x5 y5, mix x4 y4, mix x3 y3, mix x2 y2, mix x1 y1, mix x0 y0]
theorem od_l (m n a : Nat) : od (m ^^^ n) a = (od m a ^^ od n a) := by
  unfold od
  rw [Nat.and_xor_distrib_right, par8_xor]
theorem od_r (m a b : Nat) : od m (a ^^^ b) = (od m a ^^ od m b) := by
  unfold od
  rw [Nat.and_xor_distrib_left, par8_xor]
theorem od_0 (a : Nat) : od 0 a = false := by
  unfold od
  rw [Nat.zero_and]
  rfl
theorem od_z (m : Nat) : od m 0 = false := by
  unfold od
  rw [Nat.and_zero]
  rfl
theorem od_pow_all : (List.range 256).all (fun m => (List.range 8).all fun k => decide (od m (2 ^ k) = m.testBit k)) = true := by decide +kernel
theorem od_pow {m k : Nat} (hm : m < 256) (hk : k < 8) : od m (2 ^ k) = m.testBit k :=
  of_decide_eq_true (List.all_eq_true.mp (List.all_eq_true.mp od_pow_all m (List.mem_range.mpr hm)) k (List.mem_range.mpr hk))
def stepB (c : Nat) : Bool := c == 0 || (decide (c &&& (c - 1) < c) && (par8 (c &&& (c - 1)) == !par8 c))
theorem stepB_all : (List.range 256).all stepB = true := by decide +kernel
theorem step_of {c : Nat} (h : c < 256) (h0 : c ≠ 0) : c &&& (c - 1) < c ∧ par8 (c &&& (c - 1)) = !par8 c := by
  have z := List.all_eq_true.mp stepB_all c (List.mem_range.mpr h)
  unfold stepB at z
  rw [show (c == 0) = false from beq_eq_false_iff_ne.mpr h0, Bool.false_or, Bool.and_eq_true] at z
  exact ⟨of_decide_eq_true z.1, eq_of_beq z.2⟩
theorem od_S : ∀ (R : List Nat) (a x : Nat), (∀ r ∈ R, od r a = false) → S R x → od x a = false
  | [], a, x, _, hx => by
    rw [show x = 0 from hx, od_0]
  | r :: R, a, x, h, hx => by
    have h' : ∀ r ∈ R, od r a = false := fun r hr => h r (List.mem_cons_of_mem _ hr)
    rcases hx with hx | hx
    · exact od_S R a x h' hx
    · have z := od_S R a _ h' hx
      rw [od_l, h r List.mem_cons_self, Bool.xor_false] at z
      exact z
theorem bit_lt {q k v : Nat} (hq : q < 2 ^ v) (h : q.testBit k = true) : k < v := by
  by_cases hk : k < v
  · exact hk
  · have := Nat.testBit_lt_two_pow (Nat.lt_of_lt_of_le hq (Nat.pow_le_pow_right (by decide) (Nat.le_of_not_lt hk)))
    rw [h] at this
    exact absurd this (by decide)
theorem le256 {v x : Nat} (hv : v ≤ 8) (h : x < 2 ^ v) : x < 256 := Nat.lt_of_lt_of_le h (Nat.pow_le_pow_right (n := 2) (by decide) hv)
/-- what is new is told apart by an assignment under which all rows are even -/
theorem sep {v : Nat} (hv : v ≤ 8) : ∀ (R : List Nat) (q : Nat), good R → clean R q → q ≠ 0 → (∀ r ∈ R, r < 2 ^ v) → q < 2 ^ v → ∃ a, a < 2 ^ v ∧ od q a = true ∧ ∀ r ∈ R, od r a = false
  | [], q, _, _, h0, _, hq => by
    obtain ⟨k, t⟩ := top_ex q h0
    have hk := bit_lt hq t.1
    exact ⟨2 ^ k, Nat.pow_lt_pow_right (by decide) hk, by rw [od_pow (le256 hv hq) (by omega)]; exact t.1, fun r hr => (List.not_mem_nil hr).elim⟩
  | r :: R, q, ⟨k, t, hk, g⟩, hc, h0, hR, hq => by
    obtain ⟨a, ha, h1, h2⟩ := sep hv R q g hc.2 h0 (fun x hx => hR x (List.mem_cons_of_mem _ hx)) hq
    have hr := hR r List.mem_cons_self
    have k8 := bit_lt hr t.1
    cases e : od r a with
    | false => exact ⟨a, ha, h1, fun x hx => (List.mem_cons.mp hx).elim (fun z => by rw [z]; exact e) (h2 x)⟩
    | true =>
      have p2 : (2 : Nat) ^ k < 2 ^ v := Nat.pow_lt_pow_right (by decide) k8
      refine ⟨a ^^^ 2 ^ k, Nat.xor_lt_two_pow ha p2, ?_, fun x hx => ?_⟩
      · rw [od_r, h1, od_pow (le256 hv hq) (by omega), hc.1 k t]; rfl
      · rcases List.mem_cons.mp hx with z | hx
        · rw [z, od_r, e, od_pow (le256 hv hr) (by omega), t.1]; rfl
        · rw [od_r, h2 x hx, od_pow (le256 hv (hR x (List.mem_cons_of_mem _ hx))) (by omega), hk x hx]; rfl
/-! ### how many assignments give what is told -/
def agS (A : List (Nat × Bool)) (p : Nat × Bool) : List (Nat × Bool) := A ++ A.map fun r => (r.1 ^^^ p.1, r.2 != p.2)
def ag (L : List (Nat × Bool)) : List (Nat × Bool) := L.foldl agS [(0, false)]
def keep (X : List Nat) (p : Nat × Bool) : List Nat := X.filter fun a => od p.1 a == p.2
structure Cnt (v : Nat) (A : List (Nat × Bool)) (R X : List Nat) : Prop where
  g : good R
  s : ∀ x, S R x ↔ ∃ b, (x, b) ∈ A
  o : ∀ x b, (x, b) ∈ A → ∀ a ∈ X, od x a = b
  c : ∀ x b y d, (x, b) ∈ A → (y, d) ∈ A → (x ^^^ y, b != d) ∈ A
  b : ∀ r ∈ R, r < 2 ^ v
  n : X.Nodup
  l : ∀ a ∈ X, a < 2 ^ v
  f : ∀ a ∈ X, ∀ a0, a0 < 2 ^ v → (∀ r ∈ R, od r a0 = false) → a ^^^ a0 ∈ X
  k : (0, true) ∉ A → R.length ≤ v ∧ X.length = 2 ^ (v - R.length)
theorem cnt0 (v : Nat) : Cnt v [(0, false)] [] (List.range (2 ^ v)) := by
  refine ⟨trivial, fun x => ?_, ?_, ?_, fun r hr => (List.not_mem_nil hr).elim, List.nodup_range, fun a ha => List.mem_range.mp ha, fun a ha a0 h0 _ => List.mem_range.mpr (Nat.xor_lt_two_pow (List.mem_range.mp ha) h0), fun _ => ⟨Nat.zero_le _, by rw [List.length_range]; rfl⟩⟩
  · constructor
    · intro h
      rw [show x = 0 from h]
      exact ⟨false, List.mem_singleton.mpr rfl⟩
    · rintro ⟨b, h⟩
      exact (Prod.mk.inj (List.mem_singleton.mp h)).1
  · intro x b h a _
    obtain ⟨rfl, rfl⟩ := Prod.mk.inj (List.mem_singleton.mp h)
    exact od_0 a
  · intro x b y d h1 h2
    obtain ⟨rfl, rfl⟩ := Prod.mk.inj (List.mem_singleton.mp h1)
    obtain ⟨rfl, rfl⟩ := Prod.mk.inj (List.mem_singleton.mp h2)
    exact List.mem_singleton.mpr rfl
theorem agS_mem {A : List (Nat × Bool)} {p : Nat × Bool} {x : Nat} {b : Bool} : (x, b) ∈ agS A p ↔ (x, b) ∈ A ∨ (x ^^^ p.1, b != p.2) ∈ A := by
  unfold agS
  rw [List.mem_append, List.mem_map]
  constructor
  · rintro (h | ⟨⟨y, d⟩, h, e⟩)
    · exact .inl h
    · obtain ⟨rfl, rfl⟩ := Prod.mk.inj e
      refine .inr ?_
      rw [xor_self_r]
      have : ((d != p.2) != p.2) = d := by cases d <;> cases p.2 <;> rfl
      rw [this]
      exact h
  · rintro (h | h)
    · exact .inl h
    · refine .inr ⟨_, h, ?_⟩
      have : ((b != p.2) != p.2) = b := by cases b <;> cases p.2 <;> rfl
      simp only [xor_self_r, this]
theorem half {X : List Nat} (n : X.Nodup) {P : Nat → Bool} {a0 : Nat} (hf : ∀ a ∈ X, a ^^^ a0 ∈ X) (hp : ∀ a, P (a ^^^ a0) = !P a) : 2 * (X.filter P).length = X.length := by
  have one : ∀ Q : Nat → Bool, (∀ a, Q (a ^^^ a0) = !Q a) → (X.filter Q).length ≤ (X.filter fun a => !Q a).length := fun Q hq => by
    have z := nodup_le (F := (X.filter Q).map (· ^^^ a0)) (G := X.filter fun a => !Q a) (List.pairwise_map.mpr ((n.filter _).imp fun {a b} hab e => hab (by
      have z := congrArg (· ^^^ a0) e
      simp only [xor_self_r] at z
      exact z))) fun x hx => by
        obtain ⟨y, hy, rfl⟩ := List.mem_map.mp hx
        obtain ⟨h1, h2⟩ := List.mem_filter.mp hy
        exact List.mem_filter.mpr ⟨hf y h1, by rw [hq, h2]; rfl⟩
    rw [List.length_map] at z
    exact z
  have a1 := one P hp
  have a2 := one (fun a => !P a) fun a => by rw [hp]
  have e : (fun a => !!P a) = P := funext fun a => Bool.not_not _
  rw [e] at a2
  have a3 : X.length = (X.filter P).length + (X.filter fun a => !P a).length := by
    have z := List.length_eq_countP_add_countP P (l := X)
    rw [List.countP_eq_length_filter, List.countP_eq_length_filter] at z
    rw [z]
    congr 3
    exact funext fun a => by cases P a <;> rfl
  omega
theorem cnt_step {v : Nat} (hv : v ≤ 8) {A : List (Nat × Bool)} {R X : List Nat} (h : Cnt v A R X) (p : Nat × Bool) (hp : p.1 < 2 ^ v) : Cnt v (agS A p) (sp R p.1) (keep X p) := by
  obtain ⟨m, t⟩ := p
  have memR : ∀ r ∈ R, r ∈ sp R m := fun r hr => by
    unfold sp
    split
    · exact hr
    · exact List.mem_append_left _ hr
  have g' := good_sp h.g m
  have mS : S (sp R m) m := (S_sp h.g m m).mpr (.inr (by rw [Nat.xor_self]; exact S_zero R))
  have remlt : rem R m < 2 ^ v := by
    have h1 := rem_S R m
    have h2 : ∀ (R : List Nat) (x : Nat), (∀ r ∈ R, r < 2 ^ v) → S R x → x < 2 ^ v := by
      intro R
      induction R with
      | nil => intro x _ hx; rw [show x = 0 from hx]; exact Nat.two_pow_pos v
      | cons r R ih =>
        intro x hR hx
        rcases hx with hx | hx
        · exact ih x (fun r hr => hR r (List.mem_cons_of_mem _ hr)) hx
        · have z := Nat.xor_lt_two_pow (ih _ (fun r hr => hR r (List.mem_cons_of_mem _ hr)) hx) (hR r List.mem_cons_self)
          rw [xor_self_r] at z
          exact z
    have z := Nat.xor_lt_two_pow hp (h2 R _ h.b h1)
    rw [← Nat.xor_assoc, Nat.xor_self, Nat.zero_xor] at z
    exact z
  refine ⟨g', fun x => ?_, ?_, ?_, ?_, h.n.filter _, fun a ha => h.l a (List.mem_filter.mp ha).1, ?_, ?_⟩
  · rw [S_sp h.g, h.s, h.s]
    constructor
    · rintro (⟨b, hb⟩ | ⟨b, hb⟩)
      · exact ⟨b, agS_mem.mpr (.inl hb)⟩
      · refine ⟨b != t, agS_mem.mpr (.inr ?_)⟩
        have : ((b != t) != t) = b := by cases b <;> cases t <;> rfl
        rw [this]
        exact hb
    · rintro ⟨b, hb⟩
      rcases agS_mem.mp hb with hb | hb
      · exact .inl ⟨b, hb⟩
      · exact .inr ⟨_, hb⟩
  · intro x b hb a ha
    obtain ⟨a1, a2⟩ := List.mem_filter.mp ha
    rcases agS_mem.mp hb with hb | hb
    · exact h.o x b hb a a1
    · have z := h.o _ _ hb a a1
      have e : od m a = t := eq_of_beq a2
      rw [od_l, e] at z
      have y : ∀ o b t : Bool, (o ^^ t) = (b != t) → o = b := by decide
      exact y _ _ _ z
  · intro x b y d h1 h2
    rw [agS_mem] at h1 h2 ⊢
    rcases h1 with h1 | h1 <;> rcases h2 with h2 | h2
    · exact .inl (h.c _ _ _ _ h1 h2)
    · refine .inr ?_
      have z := h.c _ _ _ _ h1 h2
      rw [← Nat.xor_assoc] at z
      rw [show ((b != d) != t) = (b != (d != t)) by cases b <;> cases d <;> cases t <;> rfl]
      exact z
    · refine .inr ?_
      have z := h.c _ _ _ _ h1 h2
      rw [show x ^^^ m ^^^ y = x ^^^ y ^^^ m from by rw [Nat.xor_assoc, Nat.xor_comm m y, ← Nat.xor_assoc]] at z
      rw [show ((b != d) != t) = ((b != t) != d) by cases b <;> cases d <;> cases t <;> rfl]
      exact z
    · refine .inl ?_
      have z := h.c _ _ _ _ h1 h2
      rw [show x ^^^ m ^^^ (y ^^^ m) = x ^^^ y from by rw [Nat.xor_comm y m, ← Nat.xor_assoc, xor_self_r]] at z
      rw [show (b != d) = ((b != t) != (d != t)) by cases b <;> cases d <;> cases t <;> rfl]
      exact z
  · intro r hr
    unfold sp at hr
    split at hr
    · exact h.b r hr
    · rcases List.mem_append.mp hr with hr | hr
      · exact h.b r hr
      · rw [List.mem_singleton.mp hr]; exact remlt
  · intro a ha a0 h0 ho
    obtain ⟨a1, a2⟩ := List.mem_filter.mp ha
    refine List.mem_filter.mpr ⟨h.f a a1 a0 h0 fun r hr => ho r (memR r hr), ?_⟩
    have e : od m a0 = false := od_S (sp R m) a0 m ho mS
    show (od m (a ^^^ a0) == t) = true
    rw [od_r, e, Bool.xor_false]
    exact a2
  · intro hn
    have hn' : (0, true) ∉ A := fun z => hn (agS_mem.mpr (.inl z))
    obtain ⟨k1, k2⟩ := h.k hn'
    by_cases hm : S R m
    · obtain ⟨b, hb⟩ := (h.s m).mp hm
      have hbt : b = t := by
        refine Classical.byContradiction fun hne => hn (agS_mem.mpr (.inr ?_))
        rw [Nat.zero_xor]
        have : (true != t) = b := by revert hne; cases b <;> cases t <;> decide
        rw [show (true != (m, t).2) = b from this]
        exact hb
      have e1 : sp R m = R := if_pos ((rem_zero h.g m).mpr hm)
      have e2 : keep X (m, t) = X := List.filter_eq_self.mpr fun a ha => by
        show (od m a == t) = true
        rw [h.o m b hb a ha, hbt]
        exact beq_self_eq_true t
      show (sp R m).length ≤ v ∧ _ = 2 ^ (v - (sp R m).length)
      rw [e1, e2]
      exact ⟨k1, k2⟩
    · have hq : rem R m ≠ 0 := fun z => hm ((rem_zero h.g m).mp z)
      have e1 : sp R m = R ++ [rem R m] := if_neg hq
      obtain ⟨a0, h0, h1, h2⟩ := sep hv R (rem R m) h.g (clean_rem R m h.g) hq h.b remlt
      have hm0 : od m a0 = true := by
        have z := od_S R a0 _ h2 (rem_S R m)
        rw [od_l, h1] at z
        revert z
        cases od m a0 <;> decide
      have z := half (P := fun a => od m a == t) h.n (fun a ha => h.f a ha a0 h0 h2) fun a => by
        show (od m (a ^^^ a0) == t) = !(od m a == t)
        rw [od_r, hm0]
        cases od m a <;> cases t <;> rfl
      have z : 2 * (keep X (m, t)).length = X.length := z
      show (sp R m).length ≤ v ∧ _ = 2 ^ (v - (sp R m).length)
      rw [e1, List.length_append, List.length_singleton]
      rw [k2] at z
      have : v - R.length ≠ 0 := fun e => by
        rw [e] at z
        omega
      obtain ⟨d, hd⟩ : ∃ d, v - R.length = d + 1 := ⟨v - R.length - 1, by omega⟩
      rw [hd, Nat.pow_succ] at z
      refine ⟨by omega, ?_⟩
      rw [show v - (R.length + 1) = d from by omega]
      omega
theorem cnt_fold {v : Nat} (hv : v ≤ 8) : ∀ (L : List (Nat × Bool)) {A : List (Nat × Bool)} {R X : List Nat}, Cnt v A R X → (∀ p ∈ L, p.1 < 2 ^ v) → Cnt v (L.foldl agS A) (spn (L.map (·.1)) R) (L.foldl keep X)
  | [], _, _, _, h, _ => h
  | p :: L, _, _, _, h, hp => cnt_fold hv L (cnt_step hv h p (hp p List.mem_cons_self)) fun q hq => hp q (List.mem_cons_of_mem _ hq)
theorem keep_fold : ∀ (L : List (Nat × Bool)) (X : List Nat), L.foldl keep X = X.filter fun a => L.all fun p => od p.1 a == p.2
  | [], X => (List.filter_eq_self.mpr fun _ _ => rfl).symm
  | p :: L, X => by
    show L.foldl keep (keep X p) = _
    rw [keep_fold L]
    unfold keep
    rw [List.filter_filter]
    refine List.filter_congr fun a _ => ?_
    rw [List.all_cons, Bool.and_comm]
/-- the assignments that fit: none, or two to the power of the variables less the rank -/
theorem fit_len {v : Nat} (hv : v ≤ 8) (L : List (Nat × Bool)) (h : ∀ p ∈ L, p.1 < 2 ^ v) :
    ((List.range (2 ^ v)).filter fun a => L.all fun p => od p.1 a == p.2).length = if (0, true) ∈ ag L then 0 else 2 ^ (v - rank (L.map (·.1))) := by
  have z := cnt_fold hv L (cnt0 v) h
  rw [← keep_fold]
  by_cases c : (0, true) ∈ ag L
  · rw [if_pos c, List.length_eq_zero_iff]
    refine List.eq_nil_iff_forall_not_mem.mpr fun a ha => ?_
    have y := z.o 0 true c a ha
    rw [od_0] at y
    cases y
  · rw [if_neg c]
    exact (z.k c).2
theorem rank_v {v : Nat} (hv : v ≤ 8) (L : List (Nat × Bool)) (h : ∀ p ∈ L, p.1 < 2 ^ v) (c : (0, true) ∉ ag L) : rank (L.map (·.1)) ≤ v := (((cnt_fold hv L (cnt0 v) h)).k c).1
theorem od_spn (ms : List Nat) (a : Nat) : (∀ r ∈ spn ms [], od r a = false) ↔ ∀ m ∈ ms, od m a = false := by
  constructor
  · intro h m hm
    exact od_S _ a m h ((S_spn0 ms m).mpr (S_mem ms m hm))
  · intro h r hr
    exact od_S ms a r h ((S_spn0 ms r).mp (S_mem _ r hr))
theorem S_lt {v : Nat} : ∀ (R : List Nat) (x : Nat), (∀ r ∈ R, r < 2 ^ v) → S R x → x < 2 ^ v
  | [], x, _, hx => by rw [show x = 0 from hx]; exact Nat.two_pow_pos v
  | r :: R, x, h, hx => by
    have h' : ∀ r ∈ R, r < 2 ^ v := fun y hy => h y (List.mem_cons_of_mem _ hy)
    rcases hx with hx | hx
    · exact S_lt R x h' hx
    · have z := Nat.xor_lt_two_pow (S_lt R _ h' hx) (h r List.mem_cons_self)
      rw [xor_self_r] at z
      exact z
theorem spn_lt {ms : List Nat} (h : ∀ m ∈ ms, m < 256) : ∀ r ∈ spn ms [], r < 256 := fun r hr =>
  S_lt (v := 8) ms r h ((S_spn0 ms r).mp (S_mem _ r hr))
theorem any_spn (ms : List Nat) (a : Nat) : ((spn ms []).map fun r => od r a).any id = !(ms.all fun k => !od k a) := by
  have z := od_spn ms a
  cases h : ms.all fun k => !od k a with
  | true =>
    have h1 : ∀ m ∈ ms, od m a = false := fun m hm => by simpa using List.all_eq_true.mp h m hm
    rw [Bool.not_true, List.any_eq_false]
    intro b hb
    obtain ⟨r, hr, rfl⟩ := List.mem_map.mp hb
    rw [z.mpr h1 r hr]
    decide
  | false =>
    rw [Bool.not_false, List.any_eq_true]
    refine Classical.byContradiction fun hno => ?_
    have h2 : ∀ r ∈ spn ms [], od r a = false := fun r hr => by
      cases e : od r a with
      | false => rfl
      | true => exact absurd ⟨_, List.mem_map.mpr ⟨r, hr, rfl⟩, by rw [e]; rfl⟩ hno
    have h3 := z.mp h2
    have : ms.all (fun k => !od k a) = true := List.all_eq_true.mpr fun m hm => by rw [h3 m hm]; rfl
    rw [h] at this
    cases this
end AK
set_option Elab.async false
set_option linter.all false
namespace AK
/-! ### the fewest of some numbers that add up to one -/
def xr (L : List Nat) : Nat := L.foldr (· ^^^ ·) 0
theorem xr_cons (a : Nat) (L : List Nat) : xr (a :: L) = a ^^^ xr L := rfl
theorem xr_app : ∀ A B : List Nat, xr (A ++ B) = xr A ^^^ xr B
  | [], B => (Nat.zero_xor _).symm
  | a :: A, B => by
    rw [List.cons_append, xr_cons, xr_cons, xr_app A B, Nat.xor_assoc]
theorem xr_erase : ∀ {L : List Nat} {m : Nat}, m ∈ L → xr (L.erase m) = xr L ^^^ m
  | a :: L, m, h => by
    by_cases e : a = m
    · subst e
      rw [List.erase_cons_head, xr_cons, Nat.xor_comm a, xor_self_r]
    · have h' : m ∈ L := (List.mem_cons.mp h).resolve_left fun z => e z.symm
      rw [List.erase_cons_tail (by simpa using e), xr_cons, xr_cons, xr_erase h', Nat.xor_assoc]
/-- d of ms (any of them, as often as one likes) add up to x, and no fewer do -/
def dist (ms : List Nat) (x d : Nat) : Prop := (∃ L : List Nat, (∀ m ∈ L, m ∈ ms) ∧ xr L = x ∧ L.length = d) ∧ ∀ L : List Nat, (∀ m ∈ L, m ∈ ms) → xr L = x → d ≤ L.length
theorem dist_fun {ms : List Nat} {x d e : Nat} (h : dist ms x d) (k : dist ms x e) : d = e := by
  obtain ⟨⟨L, l1, l2, l3⟩, h2⟩ := h
  obtain ⟨⟨M, m1, m2, m3⟩, k2⟩ := k
  have a := h2 M m1 m2
  have b := k2 L l1 l2
  omega
theorem dist_ex {ms : List Nat} : ∀ (n x : Nat) (L : List Nat), L.length ≤ n → (∀ m ∈ L, m ∈ ms) → xr L = x → ∃ d, d ≤ n ∧ dist ms x d
  | 0, x, L, hl, h1, h2 => ⟨0, Nat.le_refl _, ⟨L, h1, h2, by omega⟩, fun _ _ _ => Nat.zero_le _⟩
  | n + 1, x, L, hl, h1, h2 => by
    by_cases c : ∃ M : List Nat, M.length ≤ n ∧ (∀ m ∈ M, m ∈ ms) ∧ xr M = x
    · obtain ⟨M, a, b, e⟩ := c
      obtain ⟨d, hd, z⟩ := dist_ex n x M a b e
      exact ⟨d, by omega, z⟩
    · refine ⟨L.length, hl, ⟨L, h1, h2, rfl⟩, fun M m1 m2 => ?_⟩
      refine Nat.le_of_not_lt fun hlt => c ⟨M, by omega, m1, m2⟩
theorem dist0 (ms : List Nat) : dist ms 0 0 := ⟨⟨[], fun _ h => (List.not_mem_nil h).elim, rfl, rfl⟩, fun _ _ _ => Nat.zero_le _⟩
theorem dist_zero {ms : List Nat} {x : Nat} (h : dist ms x 0) : x = 0 := by
  obtain ⟨⟨L, _, l2, l3⟩, _⟩ := h
  rw [List.length_eq_zero_iff.mp l3] at l2
  exact l2.symm
/-- one number further: at most one more -/
theorem dist_step {ms : List Nat} {x d m : Nat} (h : dist ms x d) (hm : m ∈ ms) : ∃ e, e ≤ d + 1 ∧ dist ms (x ^^^ m) e := by
  obtain ⟨⟨L, l1, l2, l3⟩, _⟩ := h
  refine dist_ex (d + 1) _ (m :: L) (by simp only [List.length_cons]; omega) (fun k hk => ?_) (by rw [xr_cons, l2, Nat.xor_comm])
  rcases List.mem_cons.mp hk with e | hk
  · rw [e]; exact hm
  · exact l1 k hk
/-- a number of a shortest row is one with which one fewer is left -/
theorem dist_in {ms : List Nat} {x d m : Nat} {L : List Nat} (h : dist ms x d) (l1 : ∀ k ∈ L, k ∈ ms) (l2 : xr L = x) (l3 : L.length = d) (hm : m ∈ L) : ∃ e, e + 1 = d ∧ dist ms (x ^^^ m) e := by
  have hp := List.length_pos_of_mem hm
  have r1 : ∀ k ∈ L.erase m, k ∈ ms := fun k hk => l1 k (List.mem_of_mem_erase hk)
  have r2 : xr (L.erase m) = x ^^^ m := by rw [xr_erase hm, l2]
  have r3 := List.length_erase_of_mem hm
  obtain ⟨e, he, hd⟩ := dist_ex _ _ (L.erase m) (Nat.le_refl _) r1 r2
  obtain ⟨f, hf, hfd⟩ := dist_step hd (l1 m hm)
  rw [xor_self_r] at hfd
  have := dist_fun h hfd
  exact ⟨e, by omega, hd⟩
/-! ### taking what fits, from the first one on -/
/-- one by one: whether the number fits (D: how many are needed) -/
def grd (D : Nat → Nat) : List Nat → Nat → Nat → List Nat
  | [], _, _ => []
  | m :: ms, i, r => if D (r ^^^ m) < D r then i :: grd D ms (i + 1) (r ^^^ m) else grd D ms (i + 1) r
/-- the numbers at some places -/
def at_ (ms : List Nat) (I : List Nat) : List Nat := I.map fun i => ms.getD i 0
def ascI : Nat → Nat → List Nat → Prop
  | _, _, [] => True
  | i, n, j :: J => i ≤ j ∧ j < n ∧ ascI (j + 1) n J
theorem ascI_mono : ∀ {i k n : Nat} {J : List Nat}, k ≤ i → ascI i n J → ascI k n J
  | _, _, _, [], _, _ => trivial
  | _, _, _, _ :: _, h, ⟨h1, h2, h3⟩ => ⟨Nat.le_trans h h1, h2, h3⟩
theorem ascI_lt : ∀ {i n : Nat} {J : List Nat}, ascI i n J → ∀ j ∈ J, i ≤ j ∧ j < n
  | _, _, [], _, j, hj => (List.not_mem_nil hj).elim
  | _, _, k :: J, ⟨h1, h2, h3⟩, j, hj => by
    rcases List.mem_cons.mp hj with e | hj
    · rw [e]; exact ⟨h1, h2⟩
    · have := ascI_lt h3 j hj
      omega
theorem at_mem {ms : List Nat} {I : List Nat} (h : ∀ i ∈ I, i < ms.length) : ∀ m ∈ at_ ms I, m ∈ ms := fun m hm => by
  obtain ⟨i, hi, rfl⟩ := List.mem_map.mp hm
  rw [List.getD_eq_getElem?_getD, List.getElem?_eq_getElem (h i hi)]
  exact List.getElem_mem _
/-- lexicographically not behind -/
def lexLe : List Nat → List Nat → Prop
  | [], _ => True
  | _ :: _, [] => False
  | a :: A, b :: B => a < b ∨ (a = b ∧ lexLe A B)
section
variable {ms : List Nat} {D : Nat → Nat}
theorem drop_getD {i m : Nat} {T : List Nat} (h : ms.drop i = m :: T) : ms.getD i 0 = m ∧ i < ms.length ∧ ms.drop (i + 1) = T := by
  have hi : i < ms.length := by
    refine Nat.lt_of_not_le fun z => ?_
    rw [List.drop_eq_nil_of_le z] at h
    cases h
  rw [List.drop_eq_getElem_cons hi] at h
  have z := List.cons.inj h
  refine ⟨?_, hi, z.2⟩
  rw [List.getD_eq_getElem?_getD, List.getElem?_eq_getElem hi]
  exact z.1
/-- of what adds up to r and is as short as can be, what grd takes is the first -/
theorem grd_first : ∀ (T : List Nat) (i r : Nat), ms.drop i = T → (∀ x, (∃ d, dist ms x d) → dist ms x (D x)) → dist ms r (D r) → ∀ J, ascI i ms.length J → xr (at_ ms J) = r → J.length = D r → lexLe (grd D T i r) J
  | [], _, _, _, _, _, _, _, _, _ => trivial
  | m :: T, i, r, hT, hD, hr, J, hJ, hx, hl => by
    obtain ⟨e1, e2, e3⟩ := drop_getD hT
    have hmem : m ∈ ms := List.mem_of_mem_drop (i := i) (by rw [hT]; exact List.mem_cons_self)
    obtain ⟨f, hf, hfd⟩ := dist_step hr hmem
    have hf2 := hD _ ⟨f, hfd⟩
    have start : ∀ J', J = i :: J' → D (r ^^^ m) + 1 = D r ∧ xr (at_ ms J') = r ^^^ m ∧ J'.length = D (r ^^^ m) ∧ ascI (i + 1) ms.length J' := fun J' e => by
      subst e
      have a1 : at_ ms (i :: J') = m :: at_ ms J' := by
        show ms.getD i 0 :: _ = _
        rw [e1]
        rfl
      have l1 := at_mem (ms := ms) (I := i :: J') fun j hj => (ascI_lt hJ j hj).2
      rw [a1] at l1 hx
      obtain ⟨g, hg, hgd⟩ := dist_in hr l1 hx (by simp only [List.length_cons, at_, List.length_map] at hl ⊢; exact hl) List.mem_cons_self
      have := dist_fun hgd hf2
      rw [xr_cons] at hx
      refine ⟨by omega, ?_, ?_, hJ.2.2⟩
      · rw [← hx, Nat.xor_comm m, xor_self_r]
      · simp only [List.length_cons] at hl
        omega
    unfold grd
    split
    · rename_i hfit
      match J, hJ, hl, start with
      | [], _, hl, _ => simp only [List.length_nil] at hl; omega
      | j :: J', hJ, hl, start =>
        by_cases e : j = i
        · subst e
          obtain ⟨s1, s2, s3, s4⟩ := start J' rfl
          exact .inr ⟨rfl, grd_first T _ _ e3 hD hf2 J' s4 s2 s3⟩
        · exact .inl (by have := hJ.1; omega)
    · rename_i hfit
      match J, hJ, hl, hx, start with
      | [], hJ, hl, hx, _ => exact grd_first T _ _ e3 hD hr [] trivial hx hl
      | j :: J', hJ, hl, hx, start =>
        by_cases e : j = i
        · subst e
          have := (start J' rfl).1
          omega
        · exact grd_first T _ _ e3 hD hr (j :: J') ⟨by have := hJ.1; omega, hJ.2.1, hJ.2.2⟩ hx hl
/-- no shortest row has one that was gone by -/
def past (ms : List Nat) (i r : Nat) : Prop := ∀ L : List Nat, (∀ m ∈ L, m ∈ ms) → xr L = r → dist ms r L.length → ∀ m ∈ L, m ∉ ms.take i
theorem grd_all : ∀ (T : List Nat) (i r : Nat), ms.drop i = T → (∀ x, (∃ d, dist ms x d) → dist ms x (D x)) → dist ms r (D r) → past ms i r →
    ascI i ms.length (grd D T i r) ∧ xr (at_ ms (grd D T i r)) = r ∧ (grd D T i r).length = D r
  | [], i, r, hT, _, hr, hp => by
    obtain ⟨⟨L, l1, l2, l3⟩, _⟩ := id hr
    have hle : ms.length ≤ i := by
      have := congrArg List.length hT
      rw [List.length_drop, List.length_nil] at this
      omega
    have hL : L = [] := by
      refine List.eq_nil_iff_forall_not_mem.mpr fun m hm => ?_
      have z := hp L l1 l2 (by rw [l3]; exact hr) m hm
      rw [List.take_of_length_le hle] at z
      exact z (l1 m hm)
    rw [hL] at l2 l3
    exact ⟨trivial, l2, l3⟩
  | m :: T, i, r, hT, hD, hr, hp => by
    obtain ⟨e1, e2, e3⟩ := drop_getD hT
    have hmem : m ∈ ms := List.mem_of_mem_drop (i := i) (by rw [hT]; exact List.mem_cons_self)
    obtain ⟨f, hf, hfd⟩ := dist_step hr hmem
    have hf2 := hD _ ⟨f, hfd⟩
    have tk : ∀ k, k ∈ ms.take (i + 1) ↔ k ∈ ms.take i ∨ k = m := fun k => by
      rw [List.take_add_one, List.mem_append]
      have : ms[i]? = some m := by
        rw [List.getD_eq_getElem?_getD, List.getElem?_eq_getElem e2] at e1
        rw [List.getElem?_eq_getElem e2]
        exact congrArg some e1
      rw [this]
      simp
    obtain ⟨g, hg, hgd⟩ := dist_step hf2 hmem
    rw [xor_self_r] at hgd
    have hgr := dist_fun hgd hr
    unfold grd
    split
    · rename_i hfit
      have p' : past ms (i + 1) (r ^^^ m) := fun L l1 l2 l3 k hk hk2 => by
        have ld := dist_fun l3 hf2
        rcases (tk k).mp hk2 with h | h
        · refine hp (m :: L) (fun x hx => ?_) (by rw [xr_cons, l2, Nat.xor_comm m, xor_self_r]) ?_ k (List.mem_cons_of_mem _ hk) h
          · rcases List.mem_cons.mp hx with e | hx
            · rw [e]; exact hmem
            · exact l1 x hx
          · have : (m :: L).length = D r := by
              simp only [List.length_cons]
              omega
            rw [this]
            exact hr
        · subst h
          obtain ⟨q, hq, hqd⟩ := dist_in l3 l1 l2 rfl hk
          rw [xor_self_r] at hqd
          have := dist_fun hqd hr
          omega
      obtain ⟨a1, a2, a3⟩ := grd_all T _ _ e3 hD hf2 p'
      refine ⟨⟨Nat.le_refl _, e2, a1⟩, ?_, ?_⟩
      · show xr (ms.getD i 0 :: at_ ms _) = r
        rw [e1, xr_cons, a2, Nat.xor_comm r, ← Nat.xor_assoc, Nat.xor_self, Nat.zero_xor]
      · simp only [List.length_cons]
        omega
    · rename_i hfit
      have p' : past ms (i + 1) r := fun L l1 l2 l3 k hk hk2 => by
        rcases (tk k).mp hk2 with h | h
        · exact hp L l1 l2 l3 k hk h
        · subst h
          obtain ⟨q, hq, hqd⟩ := dist_in l3 l1 l2 rfl hk
          have a := dist_fun hqd hf2
          have b := dist_fun l3 hr
          omega
      obtain ⟨a1, a2, a3⟩ := grd_all T _ _ e3 hD hr p'
      exact ⟨ascI_mono (Nat.le_succ i) a1, a2, a3⟩
theorem past0 (r : Nat) : past ms 0 r := fun _ _ _ _ _ _ h => by
  rw [List.take_zero] at h
  exact List.not_mem_nil h
end
/-! ### all levels, one after the other -/
/-- what is known of how many are needed, when d levels are done: ws has each number with as many -/
def known (ms : List Nat) (ws : List (Nat × Nat)) (d : Nat) : Prop := ∀ x e, (x, e) ∈ ws ↔ dist ms x e ∧ e ≤ d
/-- within the next level: those found of it are F -/
structure half_ (ms : List Nat) (ws : List (Nat × Nat)) (F : List Nat) (d : Nat) : Prop where
  ok : ∀ x e, (x, e) ∈ ws → dist ms x e ∧ e ≤ d + 1
  all : ∀ x e, dist ms x e → e ≤ d → (x, e) ∈ ws
  new : ∀ x, (x, d + 1) ∈ ws ↔ x ∈ F
  nd : (ws.map (·.1)).Nodup
theorem half_step {ms : List Nat} {ws : List (Nat × Nat)} {F : List Nat} {d s m : Nat} (h : half_ ms ws F d) (hs : dist ms s d) (hm : m ∈ ms) (hn : ∀ e, (s ^^^ m, e) ∉ ws) : half_ ms (ws ++ [(s ^^^ m, d + 1)]) (F ++ [s ^^^ m]) d := by
  obtain ⟨e, he, hd⟩ := dist_step hs hm
  have hed : e = d + 1 := by
    refine Nat.le_antisymm he (Nat.lt_of_not_le fun z => hn e (h.all _ _ hd z))
  subst hed
  refine ⟨fun x e hx => ?_, fun x e h1 h2 => List.mem_append_left _ (h.all x e h1 h2), fun x => ?_, ?_⟩
  · rcases List.mem_append.mp hx with hx | hx
    · exact h.ok x e hx
    · obtain ⟨rfl, rfl⟩ := Prod.mk.inj (List.mem_singleton.mp hx)
      exact ⟨hd, Nat.le_refl _⟩
  · rw [List.mem_append, List.mem_append, h.new, List.mem_singleton, List.mem_singleton]
    constructor
    · rintro (h | h)
      · exact .inl h
      · exact .inr (Prod.mk.inj h).1
    · rintro (h | h)
      · exact .inl h
      · exact .inr (by rw [h])
  · rw [List.map_append, List.nodup_append]
    refine ⟨h.nd, by simp, fun a ha b hb e => ?_⟩
    obtain ⟨⟨x, q⟩, hx, rfl⟩ := List.mem_map.mp ha
    have hb' : b = s ^^^ m := by simpa using hb
    exact hn q (by rw [← hb', ← e]; exact hx)
theorem half_start {ms : List Nat} {ws : List (Nat × Nat)} {d : Nat} (h : known ms ws d) (n : (ws.map (·.1)).Nodup) : half_ ms ws [] d :=
  ⟨fun x e hx => ⟨((h x e).mp hx).1, by have := ((h x e).mp hx).2; omega⟩, fun x e h1 h2 => (h x e).mpr ⟨h1, h2⟩, fun x => ⟨fun hx => absurd ((h _ _).mp hx).2 (by omega), fun hx => (List.not_mem_nil hx).elim⟩, n⟩
/-- when all of the last level with all numbers have been looked at, the next one is whole -/
theorem half_end {ms : List Nat} {ws : List (Nat × Nat)} {F R : List Nat} {d : Nat} (h : half_ ms ws F d) (hR : ∀ x, dist ms x d → x ∈ R) (hall : ∀ s ∈ R, ∀ m ∈ ms, ∃ e, (s ^^^ m, e) ∈ ws) : known ms ws (d + 1) := by
  intro x e
  refine ⟨h.ok x e, fun ⟨h1, h2⟩ => ?_⟩
  by_cases c : e ≤ d
  · exact h.all x e h1 c
  · have he : e = d + 1 := by omega
    subst he
    obtain ⟨⟨L, l1, l2, l3⟩, _⟩ := id h1
    match L, l1, l2, l3 with
    | m :: L, l1, l2, l3 =>
      obtain ⟨f, hf, hfd⟩ := dist_in h1 l1 l2 l3 List.mem_cons_self
      have hf : f = d := by omega
      subst hf
      obtain ⟨g, hg⟩ := hall _ (hR _ hfd) m (l1 m List.mem_cons_self)
      rw [xor_self_r] at hg
      have z := (h.ok _ _ hg).1
      rw [← dist_fun z h1]
      exact hg
/-- an empty level: nothing lies behind it -/
theorem known_all {ms : List Nat} {ws : List (Nat × Nat)} {d : Nat} (h : known ms ws d) (h0 : ∀ x, ¬ dist ms x d) : ∀ x e, dist ms x e → (x, e) ∈ ws := by
  have z : ∀ n x e, e ≤ n → dist ms x e → e ≤ d := by
    intro n
    induction n with
    | zero => intro x e he _; omega
    | succ n ih =>
      intro x e he hd
      by_cases c : e ≤ d
      · exact c
      · obtain ⟨⟨L, l1, l2, l3⟩, _⟩ := id hd
        match L, l1, l2, l3 with
        | [], _, _, l3 => simp only [List.length_nil] at l3; omega
        | m :: L, l1, l2, l3 =>
          obtain ⟨f, hf, hfd⟩ := dist_in hd l1 l2 l3 List.mem_cons_self
          have := ih _ f (by omega) hfd
          have : f = d := by omega
          subst this
          exact absurd hfd (h0 _)
  intro x e hd
  exact (h x e).mpr ⟨hd, z e x e (Nat.le_refl _) hd⟩
end AK
set_option Elab.async false
set_option linter.all false
namespace AK
/-! ### all sums, with their places -/
def sumS (A : List (List Nat × Nat)) (k m : Nat) : List (List Nat × Nat) := A ++ A.map fun e => (e.1 ++ [k], e.2 ^^^ m)
def sumsN (ms : List Nat) : Nat → List (List Nat × Nat)
  | 0 => [([], 0)]
  | n + 1 => sumS (sumsN ms n) n (ms.getD n 0)
theorem sums_len (ms : List Nat) : ∀ n, (sumsN ms n).length = 2 ^ n
  | 0 => rfl
  | n + 1 => by
    unfold sumsN sumS
    rw [List.length_append, List.length_map, sums_len ms n, Nat.pow_succ, Nat.mul_two]
theorem ascI_up : ∀ {i n k : Nat} {J : List Nat}, n ≤ k → ascI i n J → ascI i k J
  | _, _, _, [], _, _ => trivial
  | _, _, _, _ :: _, h, ⟨h1, h2, h3⟩ => ⟨h1, Nat.lt_of_lt_of_le h2 h, ascI_up h h3⟩
theorem ascI_snoc : ∀ {i n : Nat} {J : List Nat}, i ≤ n → ascI i n J → ascI i (n + 1) (J ++ [n])
  | _, _, [], h, _ => ⟨h, Nat.lt_succ_self _, trivial⟩
  | _, _, j :: J, h, ⟨h1, h2, h3⟩ => ⟨h1, Nat.lt_succ_of_lt h2, ascI_snoc h2 h3⟩
theorem ascI_last : ∀ {i n : Nat} {J : List Nat}, ascI i (n + 1) J → ascI i n J ∨ ∃ I, J = I ++ [n] ∧ ascI i n I
  | _, _, [], _ => .inl trivial
  | i, n, j :: J, ⟨h1, h2, h3⟩ => by
    by_cases e : j = n
    · subst e
      cases J with
      | nil => exact .inr ⟨[], rfl, trivial⟩
      | cons k J => exact absurd (h3.1) (by have := h3.2.1; omega)
    · rcases ascI_last h3 with z | ⟨I, rfl, z⟩
      · exact .inl ⟨h1, by omega, z⟩
      · exact .inr ⟨j :: I, rfl, h1, by omega, z⟩
theorem sums_mem (ms : List Nat) : ∀ (n : Nat) (I : List Nat) (x : Nat), (I, x) ∈ sumsN ms n ↔ ascI 0 n I ∧ xr (at_ ms I) = x
  | 0, I, x => by
    show (I, x) ∈ [([], 0)] ↔ _
    rw [List.mem_singleton]
    constructor
    · intro e
      obtain ⟨rfl, rfl⟩ := Prod.mk.inj e
      exact ⟨trivial, rfl⟩
    · rintro ⟨h, rfl⟩
      cases I with
      | nil => rfl
      | cons j J => exact absurd h.2.1 (Nat.not_lt_zero _)
  | n + 1, I, x => by
    unfold sumsN sumS
    rw [List.mem_append, List.mem_map, sums_mem ms n]
    have eA : ∀ J : List Nat, xr (at_ ms (J ++ [n])) = xr (at_ ms J) ^^^ ms.getD n 0 := fun J => by
      unfold at_
      rw [List.map_append, xr_app]
      show _ ^^^ (_ ^^^ 0) = _
      rw [Nat.xor_zero]
    constructor
    · rintro (⟨h1, h2⟩ | ⟨⟨J, y⟩, hJ, e⟩)
      · exact ⟨ascI_up (Nat.le_succ n) h1, h2⟩
      · obtain ⟨rfl, rfl⟩ := Prod.mk.inj e
        obtain ⟨h1, h2⟩ := (sums_mem ms n J y).mp hJ
        exact ⟨ascI_snoc (Nat.zero_le _) h1, by rw [eA, h2]⟩
    · rintro ⟨h1, h2⟩
      rcases ascI_last h1 with z | ⟨J, rfl, z⟩
      · exact .inl ⟨z, h2⟩
      · refine .inr ⟨(J, xr (at_ ms J)), (sums_mem ms n J _).mpr ⟨z, rfl⟩, ?_⟩
        rw [← h2, eA]
theorem ascI_len : ∀ {i n : Nat} {J : List Nat}, i ≤ n → ascI i n J → J.length + i ≤ n
  | _, _, [], h, _ => by simpa using h
  | i, n, j :: J, h, ⟨h1, h2, h3⟩ => by
    have := ascI_len h2 h3
    simp only [List.length_cons]
    omega
/-! ### the least -/
def lexL : List Nat → List Nat → Bool
  | [], [] => false
  | [], _ :: _ => true
  | _ :: _, [] => false
  | a :: A, b :: B => decide (a < b) || (decide (a = b) && lexL A B)
theorem lexL_no : ∀ {A B : List Nat}, A.length = B.length → lexL A B = false → lexLe B A
  | [], [], _, _ => trivial
  | [], _ :: _, h, _ => by cases h
  | _ :: _, [], h, _ => by cases h
  | a :: A, b :: B, h, e => by
    unfold lexL at e
    rw [Bool.or_eq_false_iff, Bool.and_eq_false_iff] at e
    obtain ⟨e1, e2⟩ := e
    have e1 := of_decide_eq_false e1
    by_cases c : a = b
    · refine .inr ⟨c.symm, lexL_no (by simpa using h) ?_⟩
      rcases e2 with e2 | e2
      · exact absurd c (of_decide_eq_false e2)
      · exact e2
    · exact .inl (by omega)
theorem lexLe_anti : ∀ {A B : List Nat}, lexLe A B → lexLe B A → A = B
  | [], [], _, _ => rfl
  | [], _ :: _, _, h => h.elim
  | _ :: _, [], h, _ => h.elim
  | a :: A, b :: B, h, k => by
    rcases h with h | ⟨rfl, h⟩
    · rcases k with k | ⟨rfl, _⟩ <;> omega
    · rcases k with k | ⟨_, k⟩
      · omega
      · rw [lexLe_anti h k]
theorem lexL_tr : ∀ {A B C : List Nat}, lexL A B = true → lexL B C = true → lexL A C = true
  | _, [], [], _, h => by cases h
  | [], _, [], h, k => by cases ‹List Nat› <;> simp_all [lexL]
  | [], _, _ :: _, _, _ => rfl
  | _ :: _, [], _, h, _ => by cases h
  | _ :: _, _ :: _, [], _, h => by cases h
  | a :: A, b :: B, c :: C, h, k => by
    unfold lexL at h k ⊢
    rw [Bool.or_eq_true, Bool.and_eq_true, decide_eq_true_eq, decide_eq_true_eq] at h k ⊢
    rcases h with h | ⟨h1, h2⟩ <;> rcases k with k | ⟨k1, k2⟩
    · exact .inl (by omega)
    · exact .inl (by omega)
    · exact .inl (by omega)
    · exact .inr ⟨h1.trans k1, lexL_tr h2 k2⟩
/-- fewer, or as many and earlier -/
def ltR (A B : List Nat) : Bool := decide (A.length < B.length) || (decide (A.length = B.length) && lexL A B)
theorem ltR_tr {A B C : List Nat} (h : ltR A B = true) (k : ltR B C = true) : ltR A C = true := by
  unfold ltR at h k ⊢
  rw [Bool.or_eq_true, Bool.and_eq_true, decide_eq_true_eq, decide_eq_true_eq] at h k ⊢
  rcases h with h | ⟨h1, h2⟩ <;> rcases k with k | ⟨k1, k2⟩
  · exact .inl (by omega)
  · exact .inl (by omega)
  · exact .inl (by omega)
  · exact .inr ⟨h1.trans k1, lexL_tr h2 k2⟩
theorem ltR_self (A : List Nat) : ltR A A = false := by
  have z : ∀ A : List Nat, lexL A A = false := by
    intro A
    induction A with
    | nil => rfl
    | cons a A ih => unfold lexL; rw [ih]; simp
  unfold ltR
  rw [z]
  simp
theorem ltR_no {A B : List Nat} (h : ltR A B = false) : B.length < A.length ∨ (B.length = A.length ∧ lexLe B A) := by
  unfold ltR at h
  rw [Bool.or_eq_false_iff, Bool.and_eq_false_iff] at h
  have h1 := of_decide_eq_false h.1
  by_cases c : A.length = B.length
  · refine .inr ⟨c.symm, lexL_no c ?_⟩
    rcases h.2 with e | e
    · exact absurd c (of_decide_eq_false e)
    · exact e
  · exact .inl (by omega)
theorem ltR_tri {A B : List Nat} (h : ltR A B = false) (k : ltR B A = false) : A = B := by
  rcases ltR_no h with h | ⟨h, h2⟩
  · rcases ltR_no k with k | ⟨k, _⟩ <;> omega
  · rcases ltR_no k with k | ⟨_, k2⟩
    · omega
    · exact lexLe_anti k2 h2
def minR (x : List Nat) (xs : List (List Nat)) : List Nat := xs.foldl (fun a y => if ltR y a = true then y else a) x
theorem minR_ok : ∀ (xs : List (List Nat)) (x : List Nat), minR x xs ∈ x :: xs ∧ ∀ y ∈ x :: xs, ltR y (minR x xs) = false
  | [], x => ⟨List.mem_cons_self, fun y hy => by rw [List.mem_singleton.mp hy]; exact ltR_self x⟩
  | z :: xs, x => by
    have e : minR x (z :: xs) = minR (if ltR z x = true then z else x) xs := rfl
    rw [e]
    by_cases c : ltR z x = true
    · rw [if_pos c]
      obtain ⟨h1, h2⟩ := minR_ok xs z
      refine ⟨List.mem_cons_of_mem _ h1, fun y hy => ?_⟩
      rcases List.mem_cons.mp hy with rfl | hy
      · refine Bool.eq_false_iff.mpr fun w => ?_
        have := h2 z List.mem_cons_self
        rw [ltR_tr c w] at this
        cases this
      · exact h2 y hy
    · rw [if_neg c]
      obtain ⟨h1, h2⟩ := minR_ok xs x
      refine ⟨?_, fun y hy => ?_⟩
      · rcases List.mem_cons.mp h1 with h | h
        · rw [h]; exact List.mem_cons_self
        · exact List.mem_cons_of_mem _ (List.mem_cons_of_mem _ h)
      · rcases List.mem_cons.mp hy with rfl | hy
        · exact h2 y List.mem_cons_self
        · rcases List.mem_cons.mp hy with rfl | hy
          · refine Bool.eq_false_iff.mpr fun w => ?_
            rcases List.mem_cons.mp h1 with h | h
            · rw [h] at w
              exact c w
            · have q := h2 x List.mem_cons_self
              by_cases e : ltR (minR x xs) x = true
              · exact c (ltR_tr w e)
              · rw [ltR_tri q (Bool.eq_false_iff.mpr e) |>.symm] at w
                exact c w
          · exact h2 y (List.mem_cons_of_mem _ hy)
/-! ### letters of their own -/
def lm (b : Bool) (m : Nat) : Nat := if b = true then m % 16 + 64 * (m / 16) else m
theorem lm_lt {b : Bool} {m : Nat} (h : m < 64) : lm b m < 256 := by
  unfold lm
  split <;> omega
theorem lm_inj {b : Bool} {m n : Nat} (h : lm b m = lm b n) : m = n := by
  unfold lm at h
  split at h <;> omega
theorem lm_all : (List.range 64).all (fun m => (List.range 64).all fun n => decide (lm true (m ^^^ n) = lm true m ^^^ lm true n)) = true := by decide +kernel
theorem lm_xor {b : Bool} {m n : Nat} (hm : m < 64) (hn : n < 64) : lm b (m ^^^ n) = lm b m ^^^ lm b n := by
  cases b with
  | false => rfl
  | true => exact of_decide_eq_true (List.all_eq_true.mp (List.all_eq_true.mp lm_all m (List.mem_range.mpr hm)) n (List.mem_range.mpr hn))
theorem lm0 (b : Bool) : lm b 0 = 0 := by cases b <;> rfl
theorem xr_lt {L : List Nat} (h : ∀ m ∈ L, m < 64) : xr L < 64 := by
  induction L with
  | nil => decide
  | cons a L ih =>
    rw [xr_cons]
    exact Nat.xor_lt_two_pow (n := 6) (h a List.mem_cons_self) (ih fun m hm => h m (List.mem_cons_of_mem _ hm))
theorem xr_lm {b : Bool} : ∀ {L : List Nat}, (∀ m ∈ L, m < 64) → xr (L.map (lm b)) = lm b (xr L)
  | [], _ => (lm0 b).symm
  | a :: L, h => by
    have hL := fun m hm => h m (List.mem_cons_of_mem _ hm)
    rw [List.map_cons, xr_cons, xr_cons, xr_lm hL, lm_xor (h a List.mem_cons_self) (xr_lt hL)]
theorem at_lm {b : Bool} {ms I : List Nat} (h : ∀ i ∈ I, i < ms.length) : at_ (ms.map (lm b)) I = (at_ ms I).map (lm b) := by
  unfold at_
  rw [List.map_map]
  refine List.map_congr_left fun i hi => ?_
  show (ms.map (lm b)).getD i 0 = lm b (ms.getD i 0)
  rw [List.getD_eq_getElem?_getD, List.getD_eq_getElem?_getD, List.getElem?_map, List.getElem?_eq_getElem (h i hi)]
  rfl
theorem S_lm {b : Bool} : ∀ {A : List Nat} {x : Nat}, (∀ m ∈ A, m < 64) → x < 64 → (S (A.map (lm b)) (lm b x) ↔ S A x)
  | [], x, _, _ => by
    show lm b x = 0 ↔ x = 0
    constructor
    · intro e
      exact lm_inj (e.trans (lm0 b).symm)
    · intro e
      rw [e, lm0]
  | a :: A, x, h, hx => by
    have hA := fun m hm => h m (List.mem_cons_of_mem _ hm)
    have ha := h a List.mem_cons_self
    show (S (A.map (lm b)) (lm b x) ∨ S (A.map (lm b)) (lm b x ^^^ lm b a)) ↔ _
    rw [← lm_xor hx ha, S_lm hA hx, S_lm hA (Nat.xor_lt_two_pow (n := 6) hx ha)]
    rfl
/-! ### what is taken is the least of all that fit -/
theorem grd_cons (D : Nat → Nat) (m : Nat) (T : List Nat) (i r : Nat) : grd D (m :: T) i r = if D (r ^^^ m) < D r then i :: grd D T (i + 1) (r ^^^ m) else grd D T (i + 1) r := rfl
open Classical in
/-- how many are needed -/
noncomputable def dmin (ms : List Nat) (x : Nat) : Nat := if h : ∃ d, dist ms x d then h.choose else 0
theorem dmin_ok {ms : List Nat} {x : Nat} (h : ∃ d, dist ms x d) : dist ms x (dmin ms x) := by
  unfold dmin
  rw [dif_pos h]
  exact h.choose_spec
section
variable {ms : List Nat} {b : Bool} {m : Nat}
theorem at_xr (h64 : ∀ x ∈ ms, x < 64) {J : List Nat} (h : ascI 0 ms.length J) : xr (at_ (ms.map (lm b)) J) = lm b (xr (at_ ms J)) := by
  have rng : ∀ i ∈ J, i < ms.length := fun i hi => (ascI_lt h i hi).2
  rw [at_lm rng, xr_lm fun x hx => h64 x (at_mem rng x hx)]
theorem comb_ex (h64 : ∀ x ∈ ms, x < 64) {I : List Nat} (hI : (I, m) ∈ sumsN ms ms.length) : ∃ d, dist (ms.map (lm b)) (lm b m) d := by
  obtain ⟨h1, h2⟩ := (sums_mem ms _ I m).mp hI
  have rng : ∀ i ∈ I, i < (ms.map (lm b)).length := fun i hi => by rw [List.length_map]; exact (ascI_lt h1 i hi).2
  obtain ⟨d, _, hd⟩ := dist_ex _ _ (at_ (ms.map (lm b)) I) (Nat.le_refl _) (at_mem rng) (by rw [at_xr h64 h1, h2])
  exact ⟨d, hd⟩
theorem comb_in (h64 : ∀ x ∈ ms, x < 64) (h : ∃ d, dist (ms.map (lm b)) (lm b m) d) : (grd (dmin (ms.map (lm b))) (ms.map (lm b)) 0 (lm b m), m) ∈ sumsN ms ms.length := by
  obtain ⟨a1, a2, _⟩ := grd_all (ms := ms.map (lm b)) (D := dmin (ms.map (lm b))) (ms.map (lm b)) 0 (lm b m) rfl (fun x h => dmin_ok h) (dmin_ok h) (past0 _)
  rw [List.length_map] at a1
  rw [at_xr h64 a1] at a2
  exact (sums_mem ms _ _ m).mpr ⟨a1, lm_inj a2⟩
theorem comb_min (h64 : ∀ x ∈ ms, x < 64) {I : List Nat} (hI : (I, m) ∈ sumsN ms ms.length) (hmin : ∀ J, (J, m) ∈ sumsN ms ms.length → ltR J I = false) : grd (dmin (ms.map (lm b))) (ms.map (lm b)) 0 (lm b m) = I := by
  have hex := comb_ex (b := b) h64 hI
  have hG := comb_in h64 hex
  obtain ⟨h1, h2⟩ := (sums_mem ms _ I m).mp hI
  obtain ⟨_, _, a3⟩ := grd_all (ms := ms.map (lm b)) (D := dmin (ms.map (lm b))) (ms.map (lm b)) 0 (lm b m) rfl (fun x h => dmin_ok h) (dmin_ok hex) (past0 _)
  have hd := (dmin_ok hex).2 (at_ (ms.map (lm b)) I) (at_mem fun i hi => by rw [List.length_map]; exact (ascI_lt h1 i hi).2) (by rw [at_xr h64 h1, h2])
  have el : (at_ (ms.map (lm b)) I).length = I.length := List.length_map _
  rcases ltR_no (hmin _ hG) with z | ⟨z1, z2⟩
  · omega
  · refine lexLe_anti (grd_first (ms := ms.map (lm b)) (D := dmin (ms.map (lm b))) (ms.map (lm b)) 0 (lm b m) rfl (fun x h => dmin_ok h) (dmin_ok hex) I (by rw [List.length_map]; exact h1) (by rw [at_xr h64 h1, h2]) (by omega)) z2
end
/-! ### what can be derived from the others -/
theorem bas_out : ∀ (ms R : List Nat) (i k : Nat), good R → i ≤ k → k < i + ms.length → k ∉ bas ms R i → S (R ++ ms.take (k - i)) (ms.getD (k - i) 0)
  | [], R, i, k, _, h1, h2, _ => by simp only [List.length_nil] at h2; omega
  | m :: ms, R, i, k, g, h1, h2, h => by
    simp only [List.length_cons] at h2
    have e : bas (m :: ms) R i = if rem R m = 0 then bas ms R (i + 1) else i :: bas ms (R ++ [rem R m]) (i + 1) := rfl
    by_cases c : k = i
    · subst c
      by_cases z : rem R m = 0
      · rw [Nat.sub_self]
        show S (R ++ []) m
        rw [List.append_nil]
        exact (rem_zero g m).mp z
      · rw [e, if_neg z] at h
        exact absurd List.mem_cons_self h
    · have ek : k - i = (k - (i + 1)) + 1 := by omega
      rw [ek]
      show S (R ++ m :: ms.take (k - (i + 1))) (ms.getD (k - (i + 1)) 0)
      generalize hx : ms.getD (k - (i + 1)) 0 = x
      by_cases z : rem R m = 0
      · rw [e, if_pos z] at h
        have y := bas_out ms R (i + 1) k g (by omega) (by omega) h
        rw [hx] at y
        rw [show R ++ m :: ms.take (k - (i + 1)) = (R ++ [m]) ++ ms.take (k - (i + 1)) from by simp]
        obtain ⟨u, y1, y2⟩ := (S_app _ _ _).mp y
        exact (S_app _ _ _).mpr ⟨u, S_left [m] y1, y2⟩
      · rw [e, if_neg z] at h
        have es : spn [m] R = R ++ [rem R m] := by
          show sp R m = _
          unfold sp
          rw [if_neg z]
        have y := bas_out ms (R ++ [rem R m]) (i + 1) k (es ▸ good_spn [m] R g) (by omega) (by omega) fun w => h (List.mem_cons_of_mem _ w)
        rw [hx] at y
        rw [show R ++ m :: ms.take (k - (i + 1)) = (R ++ [m]) ++ ms.take (k - (i + 1)) from by simp]
        obtain ⟨u, y1, y2⟩ := (S_app _ _ _).mp y
        rw [← es] at y1
        exact (S_app _ _ _).mpr ⟨u, (S_spn [m] R u g).mp y1, y2⟩
theorem rid_S (ms : List Nat) (i : Nat) : rid ms i = true ↔ S (oth ms i) (ms.getD i 0) := by
  unfold rid
  rw [decide_eq_true_eq, rem_zero (good_spn _ [] trivial), S_spn0]
theorem redu_S (ms : List Nat) : redu ms = (List.range ms.length).filter fun i => decide (ms.getD i 0 ∈ der (oth ms i)) := by
  unfold redu
  refine List.filter_congr fun i hi => ?_
  have hi := List.mem_range.mp hi
  rw [← decide_not, decide_eq_decide, der_mem, ← rid_S, List.mem_filter]
  constructor
  · intro h
    by_cases hb : i ∈ bas ms [] 0
    · refine Classical.byContradiction fun z => h ⟨hb, by rw [Bool.eq_false_iff.mpr z]; rfl⟩
    · have y := bas_out ms [] 0 i trivial (Nat.zero_le _) (by omega) hb
      rw [Nat.sub_zero, List.nil_append] at y
      rw [rid_S]
      exact S_left _ y
  · rintro h ⟨_, z⟩
    rw [h] at z
    cases z
theorem oth_lm (b : Bool) (ms : List Nat) (i : Nat) : oth (ms.map (lm b)) i = (oth ms i).map (lm b) := by
  unfold oth
  rw [List.map_append, List.map_take, List.map_drop]
theorem redu_lm {b : Bool} {ms : List Nat} (h64 : ∀ x ∈ ms, x < 64) : redu (ms.map (lm b)) = (List.range ms.length).filter fun i => decide (ms.getD i 0 ∈ der (oth ms i)) := by
  rw [redu_S, List.length_map]
  refine List.filter_congr fun i hi => ?_
  have hi := List.mem_range.mp hi
  have eg : (ms.map (lm b)).getD i 0 = lm b (ms.getD i 0) := by
    rw [List.getD_eq_getElem?_getD, List.getD_eq_getElem?_getD, List.getElem?_map, List.getElem?_eq_getElem hi]
    rfl
  have hx : ms.getD i 0 < 64 := by
    rw [List.getD_eq_getElem?_getD, List.getElem?_eq_getElem hi]
    exact h64 _ (List.getElem_mem _)
  rw [decide_eq_decide, der_mem, der_mem, eg, oth_lm]
  refine S_lm (fun m hm => ?_) hx
  unfold oth at hm
  rcases List.mem_append.mp hm with z | z
  · exact h64 _ (List.mem_of_mem_take z)
  · exact h64 _ (List.mem_of_mem_drop z)
end AK
set_option Elab.async false
set_option linter.all false
set_option maxRecDepth 100000
set_option maxHeartbeats 4000000
namespace AK
open PySem PySem.Spec PyProof.Rows L2
theorem lcStr {g : TG} {σ : L2.St} {H : Hp} {tt : TT} {te : TE} {vs : List Nat} {Q : VK} {x : Str} (Pv : Nat → Addr → Hp → Prop) (h0 : ∀ D, H D = none → Pv 0 D (upd H D (.lst [])))
    (hs : ∀ i c D H', H D = none → (lt x)[i]? = some c → Pv i D H' → g (.str (tx [c])) (wipe σ vs) H' fun σ2 H2 => wipe σ2 vs = wipe σ vs ∧ tt σ2 H2 fun b H3 => if b = true then te σ2 H3 fun y H4 => ∃ acc, H4 D = some (.lst acc) ∧ acc.length < sizeLine ∧ Pv (i + 1) D (upd H4 D (.lst (acc ++ [y]))) else Pv (i + 1) D H3)
    (hd : ∀ D H', H D = none → Pv (lt x).length D H' → Q (.ref D) H') : contL g tt te vs σ Q (Its x) H := by
  intro D hD
  have hz : (lt x).length = x.cps.size := Array.length_toList ..
  refine ⟨fun i m H' => m = x.cps.size - i ∧ i ≤ x.cps.size ∧ Pv i D H', ⟨x.cps.size, by simp, Nat.zero_le _, h0 D hD⟩, ?_⟩
  rintro i m H' ⟨rfl, hi, p⟩
  by_cases hlt : i < x.cps.size
  · refine .inr ⟨hlt, fun H' => Pv (i + 1) D H', fun H' p' => ⟨x.cps.size - (i + 1), by omega, rfl, hlt, p'⟩, fun y H2 hy => ?_⟩
    obtain ⟨rfl, c, hc, rfl⟩ := hy
    exact hs i c D _ hD (by show x.cps.toList[i]? = some c; rw [Array.getElem?_toList]; exact hc) p
  · have e : i = x.cps.size := by omega
    subst e
    exact .inl ⟨Nat.le_refl _, hd D H' hD (by rw [hz]; exact p)⟩
/-! ### sorted(xs), texts, any number of them -/
def rSortedSA (K : PySem.W.Frag) : List V → Hp → VK → Prop := fun vs H Q => ∃ (a : Addr) (xs : List Str), vs = [V.ref a] ∧ SqL K H a (xs.map V.str) ∧
  ∀ (ys : List Str) (p : Addr), ys.Perm xs → sortedS ys = true → H p = none → Q (.ref p) (upd H p (.lst (ys.map V.str)))
theorem cr_sortedSA {X : Cx} : CallR X (.builtin "sorted") (rSortedSA X.K) := by
  intro pins s σ H vs us Q I r h
  obtain ⟨a, xs, rfl, hs, q⟩ := h
  obtain ⟨its, rv, hl, hz⟩ := I.list hs
  rw [Vals.ref1 r]
  have hlen0 := rv.length
  have hz' : its.length ≤ sizeLine := by rw [← hlen0]; exact hz
  rw [List.length_map] at hlen0
  refine PyProof.Rows.sorted_strsAny hl.isList rv.strs hz' fun out ys h1 h2 h3 => ?_
  obtain ⟨ep, he'⟩ := PyProof.Rows.sortedAll_at s.heap its out
  have hlen : (ys.map V.str).length ≤ sizeLine := by rw [List.length_map, h2.length_eq, hlen0]; exact hz'
  exact ⟨.ref _, upd H (s.heap.objs.size + 1) (.lst (ys.map V.str)), I.laid (t' := s.toks) (fun _ _ => PyProof.Rows.sortedAll_old) (Nat.le_succ _) ⟨hlen, out.toList, ep, vals_of_strs h1, he'⟩, rfl, q ys _ h2 h3 (I.hok.fresh (Nat.le_succ _))⟩
theorem rowLT {K : PySem.W.Frag} {H : Hp} {p : Addr} {xs : List V} (h : RowAt H p xs) : SqL K H p xs ∨ SqT K H p xs := h.imp SqL.of SqT.of
theorem rowS {H H' : Hp} {p : Addr} {xs : List V} (s : Same H H') (h : RowAt H p xs) : RowAt H' p xs := h.imp (s _ _) (s _ _)
/-- a comprehension over a list or a tuple that H holds itself -/
theorem lcRow {g : TG} {σ : L2.St} {H : Hp} {K : PySem.W.Frag} {tt : TT} {te : TE} {vs : List Nat} {Q : VK} {p : Addr} {xs : List V} (hr : RowAt H p xs) (Pv : Nat → Addr → Hp → Prop) (h0 : ∀ D, H D = none → Pv 0 D (upd H D (.lst []))) (hk : ∀ i D H', H D = none → i ≤ xs.length → Pv i D H' → ∀ o, H p = some o → H' p = some o)
    (hs : ∀ i x D H', H D = none → xs[i]? = some x → Pv i D H' → g x (wipe σ vs) H' fun σ2 H2 => wipe σ2 vs = wipe σ vs ∧ tt σ2 H2 fun b H3 => if b = true then te σ2 H3 fun y H4 => ∃ acc, H4 D = some (.lst acc) ∧ acc.length < sizeLine ∧ Pv (i + 1) D (upd H4 D (.lst (acc ++ [y]))) else Pv (i + 1) D H3)
    (hd : ∀ D H', H D = none → Pv xs.length D H' → Q (.ref D) H') :
    (∃ xs, SqL K H p xs ∧ contL g tt te vs σ Q (Itl K p) H) ∨ ∃ xs, SqT K H p xs ∧ contL g tt te vs σ Q (Itt K p) H := by
  rcases hr with h | h
  · exact .inl ⟨xs, SqL.of h, lcLst (xs := xs) Pv h0 (fun i D H' hD hi z => SqL.of (hk i D H' hD hi z _ h)) hs hd⟩
  · exact .inr ⟨xs, SqT.of h, lcTup (xs := xs) Pv h0 (fun i D H' hD hi z => SqT.of (hk i D H' hD hi z _ h)) hs hd⟩
/-! ### a def with a default -/
theorem FunD.ok0 {P : Program} {w : World} {K : PySem.W.Frag} {mg : Str → Option Value} {base : Heap} {x qual : Str} {params : Arguments} {body : List Stmt} {scope : Scope} {dvs : List V} {kws : List (Str × V)} {f : Addr} {fd : FuncData} {N ps : List Str} {k : Nat} {sp : Sp} (F : FunD K x qual params body scope dvs kws f fd) (S : FnScope N ps scope) (len : ∀ vs H Q E, sp vs H Q E → vs.length = ps.length)
    (hbody : ∀ (cdv : Value) (A : Around) (outer : List Env) (s : Shared) (H : Hp) (vs : List V) (Q : VK) (E : XK), Room k (A.deeper (envOfC qual scope s.heap.objs.size f cdv)) → sp vs H Q E →
      ∃ t, PSs (cxOf CX0 P w K mg base N qual scope f cdv A outer s H E).nox body t ∧ t { nx := fun _ H' => Q .non H', rt := Q } (start N vs) H) : FnOk P w K mg base CX0 (k + 1) f fd ps sp :=
  F.ok S len fun cdv A outer s H vs Q E hr hsp => by
    obtain ⟨t, h, q⟩ := hbody cdv A outer s H vs Q E hr hsp
    exact ⟨t, h.nox, q⟩
theorem def_all {K : PySem.W.Frag} {x qual : Str} {params : Arguments} {body : List Stmt} {scope : Scope} {d : V} {kws : List (Str × V)} {f : Addr} {fd : FuncData} {ps : List Str} (F : FunD K x qual params body scope [d] kws f fd) (n : Nat) (hn : n = ps.length)
    (h : ∀ (T : Addr) (kV doc pm : Value) (an : Option Addr) (cdv ct : Value) (us its : List Value), us.length = n → its.length = [d].length →
      ∃ k, bindArgs (PySem.W.fnOf x qual params body scope (.ref T) kV doc pm an cdv ct) ⟨us, []⟩ = seqItems? (.ref T) >>= k ∧ k (some its.toArray) = pure (ps.zip (us ++ its.drop 1))) : Binds K fd ps [] := by
  obtain ⟨ds, v, b⟩ := FunD.binds1 F n 1 (by simp) (by simpa using hn) h
  cases v
  exact b
/-! ### numbers from 0 on -/
abbrev ni (l : List Nat) : List V := l.map fun n : Nat => V.int (n : Int)
theorem xor_nat (m n : Nat) : Builtin.bitXor (m : Int) (n : Int) = ((m ^^^ n : Nat) : Int) := by
  rw [Bits.bitXor_pp (Int.natCast_nonneg m) (Int.natCast_nonneg n), Int.toNat_natCast, Int.toNat_natCast]
theorem ni_snoc (l : List Nat) (n : Nat) : ni l ++ [V.int (n : Int)] = ni (l ++ [n]) := by simp [ni]
theorem ni_len (l : List Nat) : (ni l).length = l.length := List.length_map _
theorem ni_at {l : List Nat} {i : Nat} {x : V} (h : (ni l)[i]? = some x) : ∃ n, l[i]? = some n ∧ x = V.int (n : Int) := map_at h
theorem drop_at {α : Type} {l : List α} {i : Nat} {x : α} (h : l[i]? = some x) : l.drop i = x :: l.drop (i + 1) := by
  obtain ⟨hi, e⟩ := List.getElem?_eq_some_iff.mp h
  rw [← e]
  exact List.drop_eq_getElem_cons hi
/-! ### parities as texts -/
def pl (m : Nat) : List Nat := ((List.range 8).filter fun k => m.testBit k).map (97 + ·)
def pt (m : Nat) : Str := tx (pl m)
abbrev ps (l : List Nat) : List V := l.map fun m => V.str (pt m)
def A8 : List Nat := lt ("abcdefgh" : Str)
theorem A8_tx : ("abcdefgh" : Str) = tx A8 := (tx_lt _).symm
def plB (m : Nat) : Bool := asc A8 (pl m) && (decide (((pl m).map fun c => 2 ^ (c - 97)).sum = m) && (pl m).all fun c => decide (97 ≤ c) && decide (c ≤ 104))
theorem plB_all : (List.range 256).all plB = true := by decide +kernel
theorem plB_of {m : Nat} (h : m < 256) : asc A8 (pl m) = true ∧ ((pl m).map fun c => 2 ^ (c - 97)).sum = m ∧ ∀ c ∈ pl m, 97 ≤ c ∧ c ≤ 104 := by
  have z := List.all_eq_true.mp plB_all m (List.mem_range.mpr h)
  unfold plB at z
  rw [Bool.and_eq_true, Bool.and_eq_true] at z
  refine ⟨z.1, of_decide_eq_true z.2.1, fun c hc => ?_⟩
  have y := List.all_eq_true.mp z.2.2 c hc
  rw [Bool.and_eq_true] at y
  exact ⟨of_decide_eq_true y.1, of_decide_eq_true y.2⟩
theorem pl_inj {m n : Nat} (hm : m < 256) (hn : n < 256) (h : pl m = pl n) : m = n := by
  rw [← (plB_of hm).2.1, ← (plB_of hn).2.1, h]
theorem pt_inj {m n : Nat} (hm : m < 256) (hn : n < 256) (h : pt m = pt n) : m = n := pl_inj hm hn (tx_inj h)
theorem ix8_all : (List.range 8).all (fun k => decide (Txt.index0 (tx A8) (tx [97 + k]) = some k)) = true := by decide +kernel
theorem ix8 {c : Nat} (h1 : 97 ≤ c) (h2 : c ≤ 104) : Txt.index0 (tx A8) (tx [c]) = some (c - 97) := by
  have z := of_decide_eq_true (List.all_eq_true.mp ix8_all (c - 97) (List.mem_range.mpr (by omega)))
  rw [show 97 + (c - 97) = c from by omega] at z
  exact z
theorem pl_len (m : Nat) : (pl m).length ≤ 8 := by
  unfold pl
  rw [List.length_map]
  exact Nat.le_trans (List.length_filter_le _ _) (by rw [List.length_range]; exact Nat.le_refl _)
theorem ni_pow : ∀ l : List Nat, (l.map fun c => (((2 ^ (c - 97) : Nat)) : Int)).sum = (((l.map fun c => 2 ^ (c - 97)).sum : Nat) : Int)
  | [] => rfl
  | c :: l => by
    rw [List.map_cons, List.map_cons, List.sum_cons, List.sum_cons, ni_pow l, Int.natCast_add]
theorem cutV_take (xs : List V) (n : Nat) : cutV xs none (some (n : Int)) = xs.take n := by
  unfold cutV
  rw [HT.sIx_none, HT.sIx_nat, List.drop_zero, Nat.sub_zero]
  by_cases h : n ≤ xs.length
  · rw [Nat.min_eq_left h]
  · rw [Nat.min_eq_right (Nat.le_of_not_le h), List.take_of_length_le (Nat.le_refl _), List.take_of_length_le (Nat.le_of_not_le h)]
theorem cutV_drop (xs : List V) (n : Nat) : cutV xs (some (n : Int)) none = xs.drop n := by
  unfold cutV
  rw [HT.sIx_none, HT.sIx_nat]
  by_cases h : n ≤ xs.length
  · rw [Nat.min_eq_left h, List.take_of_length_le (by rw [List.length_drop]; exact Nat.le_refl _)]
  · rw [Nat.min_eq_right (Nat.le_of_not_le h), List.drop_of_length_le (Nat.le_refl _), List.drop_of_length_le (Nat.le_of_not_le h), List.take_nil]
theorem flat_ni (l : List Nat) : (ni l).all flatV = true := by
  rw [List.all_map, List.all_eq_true]
  exact fun _ _ => rfl
theorem flat_ps (l : List Nat) : (ps l).all flatV = true := by
  rw [List.all_map, List.all_eq_true]
  exact fun _ _ => rfl
theorem in_ni (n : Nat) : ∀ l : List Nat, inV (V.int (n : Int)) (ni l) = decide (n ∈ l)
  | [] => rfl
  | k :: l => by
    have ih := in_ni n l
    unfold inV at ih ⊢
    rw [show ni (k :: l) = V.int (k : Int) :: ni l from rfl, List.any_cons, ih]
    show (((k : Int) == (n : Int)) || decide (n ∈ l)) = _
    by_cases h : n = k
    · subst h
      simp
    · have : ((k : Int) == (n : Int)) = false := beq_eq_false_iff_ne.mpr (fun z => h (by exact_mod_cast z.symm))
      rw [this]
      simp [h]
theorem in_ps {n : Nat} (hn : n < 256) : ∀ {l : List Nat}, (∀ k ∈ l, k < 256) → inV (V.str (pt n)) (ps l) = decide (n ∈ l)
  | [], _ => rfl
  | k :: l, hl => by
    have ih := in_ps hn (l := l) fun x hx => hl x (List.mem_cons_of_mem _ hx)
    unfold inV at ih ⊢
    rw [show ps (k :: l) = V.str (pt k) :: ps l from rfl, List.any_cons, ih]
    show ((pt k == pt n) || decide (n ∈ l)) = _
    by_cases h : n = k
    · subst h
      simp
    · have : (pt k == pt n) = false := beq_eq_false_iff_ne.mpr (fun z => h (pt_inj (hl k List.mem_cons_self) hn z).symm)
      rw [this]
      simp [h]
theorem int0_eq (n : Nat) : decide (V.int (n : Int) = V.int 0) = decide (n = 0) := by
  by_cases h : n = 0
  · rw [h]
    rfl
  · rw [decide_eq_false h, decide_eq_false (fun z => h (by have := V.int.inj z; exact_mod_cast this))]
/-- an empty tuple of the written part -/
theorem tup0_ok {K : PySem.W.Frag} {t : Addr} (h : tup0B K t = true) (H : Hp) : SqT K H t [] := by
  unfold tup0B at h
  cases q : K.lookup t with
  | none =>
    rw [q] at h
    cases h
  | some o =>
    obtain ⟨oc, od, dt, osl⟩ := o
    rw [q] at h
    cases oc with
    | type c =>
      cases dt with
      | seq its n =>
        obtain ⟨h1, h2⟩ := He.ba (show (decide (c = "tuple") && decide (its = #[])) = true from h)
        have h2 := of_decide_eq_true h2
        subst h2
        exact .inr ⟨_, #[], n, q, congrArg Value.type (of_decide_eq_true h1), rfl, Nat.zero_le _, .nil⟩
      | _ => cases h
    | _ => cases dt <;> cases h
end AK
set_option Elab.async false
set_option linter.all false
set_option maxRecDepth 100000
set_option maxHeartbeats 4000000
namespace AK
open PySem PySem.Spec PyProof.Rows L2 PySem.Builtin PySem.Builtin.Str
/-! ### how often a sign stands in a text -/
theorem occ_cnt (x : Str) (c : Nat) : ∀ (m k : Nat) (st : Array Nat × Nat), k + m = x.length + 1 → st.snd ≤ k → st.fst.size ≤ k →
    (forIn (List.range' k m) st (StrLaws.occBody x ⟨#[c]⟩ x.length (x.length + 1))).run.fst.size = st.fst.size + ((lt x).drop k).count c
  | 0, k, st, h, h1, h2 => by
    rw [List.drop_of_length_le (by rw [len_lt]; omega)]
    rfl
  | m + 1, k, st, h, h1, h2 => by
    rw [List.range'_succ, List.forIn_cons]
    unfold StrLaws.occBody
    have so := StrLaws.subAt_one x c k
    by_cases hc : (lt x)[k]? = some c
    · obtain ⟨e1, e2⟩ := so.mpr hc
      rw [if_pos ⟨⟨⟨by omega, h1⟩, e1⟩, e2⟩]
      have ih := occ_cnt x c m (k + 1) (st.fst.push k, k + 1) (by omega) (Nat.le_refl _) (by rw [Array.size_push]; omega)
      rw [Array.size_push] at ih
      rw [drop_at hc, List.count_cons_self]
      exact ih.trans (by omega)
    · rw [if_neg fun z => hc (so.mp ⟨z.1.2, z.2⟩)]
      have ih := occ_cnt x c m (k + 1) st (by omega) (by omega) (by omega)
      refine ih.trans ?_
      by_cases hk : k < (lt x).length
      · rw [List.drop_eq_getElem_cons hk, List.count_cons_of_ne]
        intro z
        exact hc (by rw [List.getElem?_eq_getElem hk, z])
      · rw [List.drop_of_length_le (Nat.le_of_not_lt hk), List.drop_of_length_le (by omega)]
theorem cnt_one (x : Str) (c : Nat) : Txt.count x (tx [c]) = ((lt x).count c : Nat) := by
  unfold Txt.count
  rw [StrLaws.occ_eq, Array.length_toList]
  have z := occ_cnt x c (x.length + 1) 0 (#[], 0) (by omega) (Nat.le_refl _) (Nat.le_refl _)
  rw [List.drop_zero] at z
  rw [show tx [c] = (⟨#[c]⟩ : Str) from rfl, Nat.sub_zero]
  exact_mod_cast z.trans (Nat.zero_add _)
def cntB (m : Nat) : Bool := (List.range 8).all fun k => decide ((pl m).count (97 + k) = if m.testBit k then 1 else 0)
theorem cntB_all : (List.range 256).all cntB = true := by decide +kernel
theorem cnt_pl {m k : Nat} (hm : m < 256) (hk : k < 8) : (pl m).count (97 + k) = if m.testBit k then 1 else 0 :=
  of_decide_eq_true (List.all_eq_true.mp (List.all_eq_true.mp cntB_all m (List.mem_range.mpr hm)) k (List.mem_range.mpr hk))
/-! ### a sorted row of texts is the only one -/
theorem sortedS_pw : ∀ (l : List Str), sortedS l = true → l.Pairwise (fun a b => a.cps.toList ≤ b.cps.toList)
  | [], _ => .nil
  | [x], _ => List.pairwise_singleton ..
  | x :: y :: r, h => by
    have h : (!ltCps y.cps.toList x.cps.toList && sortedS (y :: r)) = true := h
    rw [Bool.and_eq_true, ltCps_eq, Bool.not_eq_true', decide_eq_false_iff_not] at h
    have ih := sortedS_pw (y :: r) h.2
    have hxy : x.cps.toList ≤ y.cps.toList := h.1
    refine List.pairwise_cons.mpr ⟨fun z hz => ?_, ih⟩
    rcases List.mem_cons.mp hz with e | hz
    · rw [e]; exact hxy
    · exact List.le_trans hxy ((List.pairwise_cons.mp ih).1 z hz)
theorem sortedS_eq {l m : List Str} (hl : sortedS l = true) (hm : sortedS m = true) (p : l.Perm m) : l = m :=
  List.Perm.eq_of_pairwise (le := fun a b : Str => a.cps.toList ≤ b.cps.toList) (fun a b _ _ h1 h2 => by
    have z := List.le_antisymm h1 h2
    rw [← tx_lt a, ← tx_lt b]
    exact congrArg tx z) (sortedS_pw l hl) (sortedS_pw m hm) p
/-! ### drawn parities -/
def subs : List Nat → List (List Nat)
  | [] => [[]]
  | x :: l => subs l ++ (subs l).map (x :: ·)
theorem mem_subs : ∀ {l m : List Nat}, m.Sublist l → m ∈ subs l
  | [], m, h => by
    rw [List.sublist_nil.mp h]
    simp [subs]
  | x :: l, m, h => by
    cases h with
    | cons _ h => exact List.mem_append_left _ (mem_subs h)
    | cons_cons _ h => exact List.mem_append_right _ (List.mem_map.mpr ⟨_, mem_subs h, rfl⟩)
def six : List Nat := [97, 98, 99, 100, 101, 102]
theorem six_tx : ("abcdef" : Str) = tx six := by decide +kernel
theorem sub6_all : (subs six).all (fun l => (List.range 64).any fun m => decide (l = pl m)) = true := by decide +kernel
theorem sub6 {l : List Nat} (h : l.Sublist six) : ∃ m, m < 64 ∧ l = pl m := by
  obtain ⟨m, hm, e⟩ := List.any_eq_true.mp (List.all_eq_true.mp sub6_all l (mem_subs h))
  exact ⟨m, List.mem_range.mp hm, of_decide_eq_true e⟩
theorem sub6v_all : (List.range 7).all (fun n => (subs (six.take n)).all fun l => (List.range (2 ^ n)).any fun m => decide (l = pl m)) = true := by decide +kernel
theorem sub6v {n : Nat} (hn : n ≤ 6) {l : List Nat} (h : l.Sublist (six.take n)) : ∃ m, m < 2 ^ n ∧ l = pl m := by
  obtain ⟨m, hm, e⟩ := List.any_eq_true.mp (List.all_eq_true.mp (List.all_eq_true.mp sub6v_all n (List.mem_range.mpr (by omega))) l (mem_subs h))
  exact ⟨m, List.mem_range.mp hm, of_decide_eq_true e⟩
theorem pt0 : ("" : Str) = pt 0 := by decide +kernel
theorem xor64 {m n : Nat} (hm : m < 64) (hn : n < 64) : m ^^^ n < 64 := Nat.xor_lt_two_pow (n := 6) hm hn
/-- the letters of a sum -/
theorem pl6_all : (List.range 64).all (fun m => decide (pl m = six.filter fun c => m.testBit (c - 97))) = true := by decide +kernel
theorem pl6 {m : Nat} (h : m < 64) : pl m = six.filter fun c => m.testBit (c - 97) := of_decide_eq_true (List.all_eq_true.mp pl6_all m (List.mem_range.mpr h))
theorem cnt_xor {m n c : Nat} (hm : m < 64) (hn : n < 64) (hc : c ∈ six) : decide (((pl m ++ pl n).count c) % 2 = 1) = (m ^^^ n).testBit (c - 97) := by
  have h8 : 97 ≤ c ∧ c ≤ 102 := by
    have : ∀ c ∈ six, 97 ≤ c ∧ c ≤ 102 := by decide
    exact this c hc
  have e : 97 + (c - 97) = c := by omega
  rw [List.count_append, Nat.testBit_xor, ← e, cnt_pl (by omega) (by omega), cnt_pl (by omega) (by omega), e]
  cases m.testBit (c - 97) <;> cases n.testBit (c - 97) <;> rfl
end AK
set_option Elab.async false
set_option linter.all false
set_option maxRecDepth 100000
set_option maxHeartbeats 4000000
namespace AK
open PySem PySem.Spec PyProof.Rows L2
/-! ### lists of texts, compared -/
theorem dpAll_str {K : PySem.W.Frag} {H : Hp} : ∀ l : List Str, DpAll K H (l.map V.str) (l.map PyData.str)
  | [] => .nil
  | x :: l => .cons (.str x) (dpAll_str l)
theorem dp_strs {K : PySem.W.Frag} {H : Hp} {p : Addr} {l : List Str} (h : SqL K H p (l.map V.str)) : Dp K H (.ref p) (.list (l.map PyData.str)) := .lst h (dpAll_str l)
theorem eqvAll_str : ∀ l m : List Str, PyData.eqvAll (l.map PyData.str) (m.map PyData.str) = decide (l = m)
  | [], [] => rfl
  | [], _ :: _ => by simp [PyData.eqvAll]
  | _ :: _, [] => by simp [PyData.eqvAll]
  | x :: l, y :: m => by
    simp only [List.map_cons, PyData.eqvAll, eqvAll_str l m, PyData.eqv]
    by_cases h : x = y <;> by_cases h2 : l = m <;> simp [h, h2]
theorem eqv_strs (l m : List Str) : PyData.eqv (.list (l.map PyData.str)) (.list (m.map PyData.str)) = decide (l = m) := by
  rw [PyData.eqv]
  exact eqvAll_str l m
theorem canAll_str : ∀ l : List Str, (∀ x ∈ l, PyData.strOk x = true) → PyData.canLayAll0 (l.map PyData.str) = true
  | [], _ => rfl
  | x :: l, h => by
    simp [PyData.canLayAll0, PyData.canLay0, canAll_str l fun y hy => h y (List.mem_cons_of_mem _ hy), h x List.mem_cons_self]
theorem depAll_str : ∀ l : List Str, PyData.depthAll (l.map PyData.str) ≤ 1
  | [] => by simp [PyData.depthAll]
  | x :: l => by
    have := depAll_str l
    simp [PyData.depthAll, PyData.depth]
    omega
theorem strOk_all : (List.range 256).all (fun m => PyData.strOk (pt m)) = true := by decide +kernel
theorem strOk_pt {m : Nat} (h : m < 256) : PyData.strOk (pt m) = true := List.all_eq_true.mp strOk_all m (List.mem_range.mpr h)
theorem shaped_strs {l : List Str} (hs : ∀ x ∈ l, PyData.strOk x = true) (h : l.length ≤ 900) : SeqAt.shaped (.list (l.map PyData.str)) = true := by
  unfold SeqAt.shaped
  rw [Bool.and_eq_true]
  constructor
  · simp [PyData.canLay0, canAll_str l hs]
    try exact sizeLe (by omega)
  · refine decide_eq_true ?_
    have := depAll_str l
    simp [PyData.depth]
    omega
theorem dpAll_int {K : PySem.W.Frag} {H : Hp} : ∀ l : List Nat, DpAll K H (ni l) (l.map fun n : Nat => PyData.int (n : Int))
  | [] => .nil
  | x :: l => .cons (.int x) (dpAll_int l)
theorem dp_tints {K : PySem.W.Frag} {H : Hp} {p : Addr} {l : List Nat} (h : SqT K H p (ni l)) : Dp K H (.ref p) (.tuple (l.map fun n : Nat => PyData.int (n : Int))) := .tup h (dpAll_int l)
theorem eqv_tnil (l : List Nat) : PyData.eqv (.tuple (l.map fun n : Nat => PyData.int (n : Int))) (.tuple (([] : List Nat).map fun n : Nat => PyData.int (n : Int))) = decide (l = []) := by
  rw [PyData.eqv]
  cases l <;> simp [PyData.eqvAll]
theorem canAll_int : ∀ l : List Nat, PyData.canLayAll0 (l.map fun n : Nat => PyData.int (n : Int)) = true
  | [] => rfl
  | x :: l => by
    simp [PyData.canLayAll0, PyData.canLay0, canAll_int l]
theorem depAll_int : ∀ l : List Nat, PyData.depthAll (l.map fun n : Nat => PyData.int (n : Int)) ≤ 1
  | [] => by simp [PyData.depthAll]
  | x :: l => by
    have := depAll_int l
    simp [PyData.depthAll, PyData.depth]
    omega
theorem shaped_tints (l : List Nat) : SeqAt.shaped (.tuple (l.map fun n : Nat => PyData.int (n : Int))) = true := by
  unfold SeqAt.shaped
  rw [Bool.and_eq_true]
  constructor
  · simp [PyData.canLay0, canAll_int l]
  · refine decide_eq_true ?_
    have := depAll_int l
    simp [PyData.depth]
    omega
theorem ps_at {l : List Nat} {i : Nat} {x : V} (h : (ps l)[i]? = some x) : ∃ n, l[i]? = some n ∧ x = V.str (pt n) := map_at h
theorem lt_pt (m : Nat) : lt (pt m) = pl m := rfl
end AK
set_option Elab.async false
set_option linter.all false
set_option maxRecDepth 100000
set_option maxHeartbeats 4000000
/-! zip of a list and a tuple, the walk over it -/
namespace AK
open PySem PySem.Spec PyProof.Rows L2
section
variable {prog : Program} {w : World} {A : Around} {E : Value → Shared → Prop} {s : Shared}
/-- one turn of it: an item of each -/
theorem zm_item {z P O i j l m : Addr} {n k : Nat} {us vs : Array Value} {u v c d : Value} {Q : Value → Shared → Prop} (D : ZipApart z P O i j l m) (hZ : IsZip s.heap z P O .none) (hP : IsPair s.heap P (.ref i) (.ref j)) (hO : IsPair s.heap O c d)
    (ti : s.heap.IsListIter i l n) (tj : s.heap.IsTupleIter j m k) (tl : s.heap.IsList l us) (tm : s.heap.IsTuple m vs) (eu : us[n]? = some u) (ev : vs[k]? = some v)
    (q : ∀ g, IsZip g z P O (rawInt s.heap.objs.size) → IsPair g O u v → g.IsListIter i l (n + 1) → g.IsTupleIter j m (k + 1) → IsPair g s.heap.objs.size u v → g.objs.size = s.heap.objs.size + 1 →
      (∀ b o, b ≠ z → b ≠ O → b ≠ i → b ≠ j → s.heap.get? b = some o → g.get? b = some o) → Q (.ref s.heap.objs.size) { s with heap := g }) :
    wpAny (model prog w) A (Builtin.«zip.__next__» ⟨[.ref z], []⟩) (fun r t => ∃ x, r = .done (.ret x) ∧ Q x t) E s := by
  show wpAny _ _ (field (.ref z) 2 >>= _) _ _ s
  refine wpAny_bind (wpAny_field hZ rfl (x := .bool false) rfl ?_)
  show wpAny _ _ (field (.ref z) 3 >>= _) _ _ s
  refine wpAny_bind (wpAny_field hZ rfl (x := .ref P) rfl (wpAny_bind (wpAny_seqItems hP rfl ?_)))
  show wpAny _ _ (Builtin.SmallTypes.ownedTupleIsFree (.ref z) >>= _) _ _ s
  unfold Builtin.SmallTypes.ownedTupleIsFree
  refine wpAny_bind (wpAny_bind (wpAny_field hZ rfl (x := .none) rfl (wpAny_pure ?_)))
  simp only [if_true]
  refine wpAny_bind (wpAny_rule (wpAny_bind (wpAny_field hZ rfl (x := .ref O) rfl (wpAny_bind (wpAny_setField_rec hZ (by simp) fun g1 a1 b1 => ?_)))))
  replace a1 : IsZip g1 z P O .ellipsis := a1
  refine wpAny_bind ?_
  simp only [List.zipIdx_cons, List.zipIdx_nil, List.forIn_cons, List.forIn_nil]
  refine wpAny_bind (wpAny_bind (wpAny_onRaise ?_))
  show wpAny _ _ (Builtin.SmallTypes.nextOf (.ref i) >>= _) _ _ _
  refine wpAny_bind (wpAny_nextOf_list_item (ti.extBut b1.extBut D.i1z) (tl.extBut b1.extBut D.l1z) eu fun g2 ti2 b2 => wpAny_pure ?_)
  have o2 : IsPair g2 O c d := b2.extBut _ _ D.TOi1 (b1.extBut _ _ D.TOz hO)
  refine wpAny_bind (wpAny_seqItems o2 rfl (wpAny_bind (wpAny_updateSeq_pair o2 fun g3 o3 b3 => ?_)))
  replace o3 : IsPair g3 O u d := o3
  refine wpAny_bind (wpAny_letGo (wpAny_pure (wpAny_bind (wpAny_bind (wpAny_onRaise ?_)))))
  show wpAny _ _ (Builtin.SmallTypes.nextOf (.ref j) >>= _) _ _ _
  have tj3 : g3.IsTupleIter j m k := ((tj.extBut b1.extBut D.i2z).extBut b2.extBut D.i12.symm).extBut b3.extBut D.TOi2.symm
  have tm3 : g3.IsTuple m vs := ((tm.extBut b1.extBut D.l2z).extBut b2.extBut D.l2i1).extBut b3.extBut D.l2TO
  refine wpAny_bind (RZ.nextOf_tuple_item tj3 tm3 ev fun g4 tj4 b4 => wpAny_pure ?_)
  have o4 : IsPair g4 O u d := b4.extBut _ _ D.TOi2 o3
  refine wpAny_bind (wpAny_seqItems o4 rfl (wpAny_bind (wpAny_updateSeq_pair o4 fun g5 o5 b5 => ?_)))
  replace o5 : IsPair g5 O u v := o5
  refine wpAny_bind (wpAny_letGo (wpAny_pure (wpAny_pure (wpAny_bind (wpAny_seqItems o5 rfl (wpAny_bind (wpAny_newTuple ?_)))))))
  have sz : g5.objs.size = s.heap.objs.size := by rw [b5.1, b4.1, b3.1, b2.1, b1.1]
  have old : ∀ b o, b ≠ z → b ≠ O → b ≠ i → b ≠ j → s.heap.get? b = some o → g5.get? b = some o := fun b o n1 n2 n3 n4 e => b5.extBut _ _ n2 (b4.extBut _ _ n4 (b3.extBut _ _ n2 (b2.extBut _ _ n3 (b1.extBut _ _ n1 e))))
  have a5 : IsZip g5 z P O .ellipsis := b5.extBut _ _ D.TOz.symm (b4.extBut _ _ D.i2z.symm (b3.extBut _ _ D.TOz.symm (b2.extBut _ _ D.i1z.symm a1)))
  have ti5 : g5.IsListIter i l (n + 1) := ((ti2.extBut b3.extBut D.TOi1.symm).extBut b4.extBut D.i12).extBut b5.extBut D.TOi1.symm
  have tj5 : g5.IsTupleIter j m (k + 1) := tj4.extBut b5.extBut D.TOi2.symm
  have lz : z < g5.objs.size := Heap.lt_size a5
  show wpAny _ _ (Builtin.SmallTypes.ownedTupleHandOut (.ref z) (.ref g5.objs.size) >>= _) _ _ _
  unfold Builtin.SmallTypes.ownedTupleHandOut
  have a6 : IsZip (g5.push { cls := .type "tuple", data := .seq #[u, v] }) z P O .ellipsis := Heap.get?_push_of_some _ a5
  refine wpAny_bind (wpAny_bind (wpAny_setField_rec a6 (by simp) fun g7 a7 b7 => ?_))
  replace a7 : IsZip g7 z P O (rawInt g5.objs.size) := a7
  refine wpAny_setField_rec a7 (by simp) fun g8 a8 b8 => ?_
  replace a8 : IsZip g8 z P O (rawInt g5.objs.size) := a8
  have up : ∀ b o, b ≠ z → g5.get? b = some o → g8.get? b = some o := fun b o n1 e => b8.extBut _ _ n1 (b7.extBut _ _ n1 (Heap.get?_push_of_some _ e))
  have t8 : IsPair g8 g5.objs.size u v := b8.extBut _ _ (Nat.ne_of_gt lz) (b7.extBut _ _ (Nat.ne_of_gt lz) (Heap.get?_push_size _ rfl))
  have s8 : g8.objs.size = g5.objs.size + 1 := by rw [b8.1, b7.1, Heap.size_push]
  rw [sz] at a8 t8 s8
  refine wpAny_pure ⟨_, rfl, ?_⟩
  show Q (.ref g5.objs.size) _
  rw [sz]
  exact q g8 a8 (up _ _ D.TOz o5) (ti5.at fun o e => up _ o D.i1z e) (tj5.at fun o e => up _ o D.i2z e) t8 s8 fun b o n1 n2 n3 n4 e => up b o n1 (old b o n1 n2 n3 n4 e)
/-- the list has no more -/
theorem zm_end {z P O i j l m : Addr} {n : Nat} {us : Array Value} {c d : Value} {Q : Fin → Shared → Prop} (hh : A.handled = none) (D : ZipApart z P O i j l m) (hZ : IsZip s.heap z P O .none) (hP : IsPair s.heap P (.ref i) (.ref j)) (hO : IsPair s.heap O c d)
    (ti : s.heap.IsListIter i l n) (tl : s.heap.IsList l us) (eu : us[n]? = none)
    (q : ∀ g e, (∀ b o, b ≠ z → b ≠ O → b ≠ i → b ≠ j → s.heap.get? b = some o → g.get? b = some o) → (∃ o, g.get? e = some o ∧ o.cls = .type "StopIteration") → E (.ref e) { s with heap := g }) :
    wpAny (model prog w) A (Builtin.«zip.__next__» ⟨[.ref z], []⟩) Q E s := by
  show wpAny _ _ (field (.ref z) 2 >>= _) _ _ s
  refine wpAny_bind (wpAny_field hZ rfl (x := .bool false) rfl ?_)
  show wpAny _ _ (field (.ref z) 3 >>= _) _ _ s
  refine wpAny_bind (wpAny_field hZ rfl (x := .ref P) rfl (wpAny_bind (wpAny_seqItems hP rfl ?_)))
  show wpAny _ _ (Builtin.SmallTypes.ownedTupleIsFree (.ref z) >>= _) _ _ s
  unfold Builtin.SmallTypes.ownedTupleIsFree
  refine wpAny_bind (wpAny_bind (wpAny_field hZ rfl (x := .none) rfl (wpAny_pure ?_)))
  simp only [if_true]
  refine wpAny_bind (wpAny_rule (wpAny_bind (wpAny_field hZ rfl (x := .ref O) rfl (wpAny_bind (wpAny_setField_rec hZ (by simp) fun g1 a1 b1 => ?_)))))
  replace a1 : IsZip g1 z P O .ellipsis := a1
  refine wpAny_bind ?_
  simp only [List.zipIdx_cons, List.zipIdx_nil, List.forIn_cons, List.forIn_nil]
  refine wpAny_bind (wpAny_bind (wpAny_onRaise ?_))
  show wpAny _ _ (Builtin.SmallTypes.nextOf (.ref i) >>= _) _ _ _
  refine wpAny_bind (wpAny_nextOf_list_end hh (ti.extBut b1.extBut D.i1z) (tl.extBut b1.extBut D.l1z) eu fun g2 e b2 he => ?_)
  obtain ⟨oe, e1, e2⟩ := he
  have a2 : IsZip g2 z P O .ellipsis := b2 _ _ D.i1z.symm a1
  have ez : e ≠ z := fun x => by
    rw [x, a2] at e1
    cases e1
    simp at e2
  exact wpAny_setField_rec a2 (by simp) fun g3 _ b3 => q g3 e (fun b o n1 _ n3 _ x => b3.extBut _ _ n1 (b2 _ _ n3 (b1.extBut _ _ n1 x))) ⟨oe, b3.extBut _ _ ez e1, e2⟩
end
end AK
set_option Elab.async false
set_option linter.all false
set_option maxRecDepth 100000
set_option maxHeartbeats 4000000
namespace AK
open PySem PySem.Spec PyProof.Rows L2
section
variable {prog : Program} {w : World} {A : Around} {E : Value → Shared → Prop} {s : Shared}
theorem zm_next {z P O i j l m : Addr} {n k : Nat} {us vs : Array Value} {u v c d : Value} {Q : Option Value → Shared → Prop} (D : ZipApart z P O i j l m) (hZ : IsZip s.heap z P O .none) (hP : IsPair s.heap P (.ref i) (.ref j)) (hO : IsPair s.heap O c d)
    (ti : s.heap.IsListIter i l n) (tj : s.heap.IsTupleIter j m k) (tl : s.heap.IsList l us) (tm : s.heap.IsTuple m vs) (eu : us[n]? = some u) (ev : vs[k]? = some v)
    (q : ∀ g, IsZip g z P O (rawInt s.heap.objs.size) → IsPair g O u v → g.IsListIter i l (n + 1) → g.IsTupleIter j m (k + 1) → IsPair g s.heap.objs.size u v → g.objs.size = s.heap.objs.size + 1 →
      (∀ b o, b ≠ z → b ≠ O → b ≠ i → b ≠ j → s.heap.get? b = some o → g.get? b = some o) → Q (some (.ref s.heap.objs.size)) { s with heap := g }) : wpAny (model prog w) A (pyNext (.ref z)) Q E s := by
  have ty : s.TypeIs (.ref z) "zip" := ⟨_, hZ, rfl⟩
  unfold pyNext
  exact wpAny_bind (wpAny_attempt (wpAny_callSpecial?_slot (name := Str.ofString "__next__") ty F.slot_zip_next (wpAny_call_entry F.slot_zip_next ty F.entry_zip_next (zm_item D hZ hP hO ti tj tl tm eu ev fun g a1 a2 a3 a4 a5 a6 a7 => wpAny_pure (q g a1 a2 a3 a4 a5 a6 a7)) (F.args_zip_next_1 _))))
theorem zm_stop {z P O i j l m : Addr} {n : Nat} {us : Array Value} {c d : Value} {Q : Option Value → Shared → Prop} (hh : A.handled = none) (D : ZipApart z P O i j l m) (hZ : IsZip s.heap z P O .none) (hP : IsPair s.heap P (.ref i) (.ref j)) (hO : IsPair s.heap O c d)
    (ti : s.heap.IsListIter i l n) (tl : s.heap.IsList l us) (eu : us[n]? = none)
    (q : ∀ g, (∀ b o, b ≠ z → b ≠ O → b ≠ i → b ≠ j → s.heap.get? b = some o → g.get? b = some o) → Q none { s with heap := g }) : wpAny (model prog w) A (pyNext (.ref z)) Q E s := by
  have ty : s.TypeIs (.ref z) "zip" := ⟨_, hZ, rfl⟩
  unfold pyNext
  refine wpAny_bind (wpAny_attempt (wpAny_callSpecial?_slot (name := Str.ofString "__next__") ty F.slot_zip_next (wpAny_call_entry F.slot_zip_next ty F.entry_zip_next (zm_end hh D hZ hP hO ti tl eu fun g e hk he => ?_) (F.args_zip_next_1 _))))
  obtain ⟨o, e1, e2⟩ := he
  exact wpAny_bind (wpAny_isInstance (T := "StopIteration") (b := true) ⟨o, e1, e2⟩ isSubtype_stop (wpAny_pure (q _ hk)))
end
/-- the heap behind zip(l, m) -/
abbrev zm1 (h : Heap) (l : Addr) : Heap := h.push { cls := .type "list_iterator", data := .fields #[.ref l, .int 0 0] }
abbrev zm2 (h : Heap) (l m : Addr) : Heap := (zm1 h l).push { cls := .type "tuple_iterator", data := .fields #[.ref m, .int 0 0] }
abbrev zm3 (h : Heap) (l m : Addr) : Heap := (zm2 h l m).push { cls := .type "tuple", data := .seq #[.ref h.objs.size, .ref (zm1 h l).objs.size] }
abbrev zm4 (h : Heap) (l m : Addr) : Heap := (zm3 h l m).push { cls := .type "tuple", data := .seq #[.none, .none] }
abbrev zm5 (h : Heap) (l m : Addr) : Heap := (zm4 h l m).push { cls := .type "zip", data := .fields #[.none, .bool false, .bool false, .ref (zm2 h l m).objs.size, .ref (zm3 h l m).objs.size] }
theorem zm_new (l m : Addr) (us vs : Array Value) :
    Meets (Builtin.«zip.__new__» ⟨[.type "zip", .ref l, .ref m], []⟩) (fun _ R s => s.heap.IsList l us ∧ s.heap.IsTuple m vs ∧ R (.ok (.ret (.ref (zm4 s.heap l m).objs.size))) { s with heap := zm5 s.heap l m }) :=
  .of_wp fun prog w A R s h => by
    obtain ⟨hp, g, d, tk, os⟩ := s
    obtain ⟨t1, t2, q⟩ := h
    have hsub := sub_zip
    have T1 : Heap.IsList (Shared.heap ⟨hp, g, d, tk, os⟩) l us := t1
    have T2 : Heap.IsTuple (Shared.heap ⟨hp.push { cls := .type "list_iterator", data := .fields #[.ref l, .int 0 0] }, g, d, tk, os⟩) m vs := Heap.IsTuple.push t2 _
    wp_walk using wpAny_pyIter_list T1, wpAny_pyIter_tuple T2
    exact ⟨_, rfl, q⟩
section
variable {prog : Program} {w : World} {A : Around} {E : Value → Shared → Prop} {s : Shared}
theorem zm_call {l m : Addr} {us vs : Array Value} {Q : Value → Shared → Prop} (t1 : s.heap.IsList l us) (t2 : s.heap.IsTuple m vs)
    (q : ∀ g, IsZip g (s.heap.objs.size + 4) (s.heap.objs.size + 2) (s.heap.objs.size + 3) .none → IsPair g (s.heap.objs.size + 2) (.ref s.heap.objs.size) (.ref (s.heap.objs.size + 1)) →
      IsPair g (s.heap.objs.size + 3) .none .none → g.IsListIter s.heap.objs.size l 0 → g.IsTupleIter (s.heap.objs.size + 1) m 0 → g.objs.size = s.heap.objs.size + 5 →
      (∀ b o, s.heap.get? b = some o → g.get? b = some o) → Q (.ref (s.heap.objs.size + 4)) { s with heap := g }) :
    wpAny (model prog w) A (call (.type "zip") [.ref l, .ref m]) Q E s := by
  refine callType_new F.called_zip (by decide) (F.typeCall_zip_2 _ _) (F.newCall_zip_2 _ _) (fun obj => F.args_object_init_3 obj _ _) F.entry_zip_new (zm_new l m us vs) ⟨t1, t2, ?_⟩
  have n1 : (zm1 s.heap l).objs.size = s.heap.objs.size + 1 := Heap.size_push ..
  have n2 : (zm2 s.heap l m).objs.size = s.heap.objs.size + 2 := by rw [Heap.size_push, n1]
  have n3 : (zm3 s.heap l m).objs.size = s.heap.objs.size + 3 := by rw [Heap.size_push, n2]
  have n4 : (zm4 s.heap l m).objs.size = s.heap.objs.size + 4 := by rw [Heap.size_push, n3]
  have n5 : (zm5 s.heap l m).objs.size = s.heap.objs.size + 5 := by rw [Heap.size_push, n4]
  have f5 : (zm5 s.heap l m).get? (zm4 s.heap l m).objs.size = some _ := Heap.get?_push_size _ rfl
  have f4 : (zm5 s.heap l m).get? (zm3 s.heap l m).objs.size = some _ := Heap.get?_push_of_some _ (Heap.get?_push_size _ rfl)
  have f3 : (zm5 s.heap l m).get? (zm2 s.heap l m).objs.size = some _ := Heap.get?_push_of_some _ (Heap.get?_push_of_some _ (Heap.get?_push_size _ rfl))
  have f2 : (zm5 s.heap l m).get? (zm1 s.heap l).objs.size = some _ := Heap.get?_push_of_some _ (Heap.get?_push_of_some _ (Heap.get?_push_of_some _ (Heap.get?_push_size _ rfl)))
  have f1 : (zm5 s.heap l m).get? s.heap.objs.size = some _ := Heap.get?_push_of_some _ (Heap.get?_push_of_some _ (Heap.get?_push_of_some _ (Heap.get?_push_of_some _ (Heap.get?_push_size _ rfl))))
  show _ ∧ _
  rw [n2, n3, n4] at f5
  rw [n1, n2] at f3
  rw [n3] at f4
  rw [n1] at f2
  rw [n4]
  refine ⟨⟨_, f5, rfl⟩, q _ f5 f3 f4 ⟨_, f1, rfl, rfl⟩ ⟨_, f2, rfl, rfl⟩ n5 fun b o x => ?_⟩
  exact Heap.get?_push_of_some _ (Heap.get?_push_of_some _ (Heap.get?_push_of_some _ (Heap.get?_push_of_some _ (Heap.get?_push_of_some _ x))))
end
/-- the walk: pairs of an item of the list at p and one of the tuple at q -/
def ItzM (K : PySem.W.Frag) (p q : Addr) : It :=
  ⟨fun i H => ∃ (xs ys : List V) (x y : V), (SqL K H p xs ∧ SqT K H q ys) ∧ xs[i]? = some x ∧ ys[i]? = some y,
    fun i H v H' => ∃ t x y, (v = .ref t ∧ H t = none) ∧ H' = upd H t (.tup [x, y]) ∧ (∀ xs, SqL K H p xs → xs[i]? = some x) ∧ ∀ ys, SqT K H q ys → ys[i]? = some y,
    fun i H => ∃ xs : List V, SqL K H p xs ∧ xs.length ≤ i⟩
theorem five {z a b c d x : Addr} (h : x ∈ [z, a, b, c, d]) : x = z ∨ x = a ∨ x = b ∨ x = c ∨ x = d := by simpa using h
theorem zm_turn {P : Program} {w : World} {K : PySem.W.Frag} {elts : List Expr} {kk : Nat} {tpos : Pos} {p q z I O i j : Addr} (D : ZipApart z I O i j p q) :
    Turn P w K (.Tuple elts kk tpos) (ItzM K p q) [z, I, O, i, j] z (fun n h => IsZip h z I O .none ∧ IsPair h I (.ref i) (.ref j) ∧ (∃ x y, IsPair h O x y) ∧ h.IsListIter i p n ∧ h.IsTupleIter j q n) where
  mem := by simp
  obj := fun n h st c hc => by
    obtain ⟨a1, a2, ⟨x, y, a3⟩, ⟨o1, e1, _, d1⟩, ⟨o2, e2, _, d2⟩⟩ := st
    rcases five hc with e | e | e | e | e <;> rw [e]
    · exact ⟨_, a1, fun _ x => nomatch x⟩
    · exact ⟨_, a2, fun _ x => nomatch x⟩
    · exact ⟨_, a3, fun _ x => nomatch x⟩
    · exact ⟨o1, e1, fun _ x => by rw [d1] at x; cases x⟩
    · exact ⟨o2, e2, fun _ x => by rw [d2] at x; cases x⟩
  keep := fun n h g st k => by
    obtain ⟨a1, a2, ⟨x, y, a3⟩, t1, t2⟩ := st
    refine ⟨k z (by simp) _ a1, k I (by simp) _ a2, ⟨x, y, k O (by simp) _ a3⟩, t1.at fun o e => ?_, t2.at fun o e => ?_⟩
    · exact k i (by simp) o e
    · exact k j (by simp) o e
  item := by
    intro X hP hw hK hc n pins s σ H E J hf st hg
    subst hP hw hK
    obtain ⟨a1, a2, ⟨x0, y0, a3⟩, t1, t2⟩ := st
    obtain ⟨xs, ys, x, y, ⟨qx, qy⟩, hx, hy⟩ := hg
    obtain ⟨us, ru, p1, _⟩ := J.list qx
    obtain ⟨vs, rv, p2, _⟩ := J.tuple qy
    obtain ⟨u, hu, r1⟩ := ru.get hx
    obtain ⟨v, hv, r2⟩ := rv.get hy
    have lz : z < s.heap.objs.size := Heap.lt_size a1
    refine zm_next D a1 a2 a3 t1 t2 p1.isList p2 (u := u) (v := v) (by simpa using hu) (by simpa using hv) fun g b1 b2 b3 b4 b5 b6 b7 => ?_
    refine ⟨_, rfl, wpAny_letOwnedTupleGo_zip (s := { s with heap := g }) b1 fun k c1 sb => ?_⟩
    have T : k.get? s.heap.objs.size = some { cls := .type "tuple", data := .seq #[u, v] } := (sb.2 _ (Nat.ne_of_gt lz)).trans b5
    have kept : ∀ c o, c ∉ [z, I, O, i, j] → s.heap.get? c = some o → k.get? c = some o := fun c o hb e => by
      have m : ∀ {d : Addr}, d ∈ [z, I, O, i, j] → c ≠ d := fun hd x => hb (x ▸ hd)
      exact (sb.2 c (m (by simp))).trans (b7 c o (m (by simp)) (m (by simp)) (m (by simp)) (m (by simp)) e)
    have J1 : Inv X pins σ (upd H s.heap.objs.size (.tup [x, y])) { s with heap := k } :=
      J.turnedNew (t' := s.toks) (ch := [z, I, O, i, j]) (fun c o hb e => kept c o hb e) hf (Nat.le_refl _) ⟨by show 2 ≤ sizeLine; decide, [u, v], .cons r1 (.cons r2 .nil), ⟨_, T, rfl, _, rfl⟩⟩
    refine ⟨.ref s.heap.objs.size, _, J1, rfl, ⟨_, x, y, ⟨rfl, J.hok.fresh (Nat.le_refl _)⟩, rfl, fun l hl => by rw [J.list_inj hl qx]; exact hx, fun l hl => by rw [J.tuple_inj hl qy]; exact hy⟩, ⟨c1, ?_, ⟨u, v, ?_⟩, ?_, ?_⟩, fun c hcm => ?_⟩
    · exact (sb.2 _ D.TIz).trans (b7 _ _ D.TIz D.TITO D.TIi1 D.TIi2 a2)
    · exact (sb.2 _ D.TOz).trans b2
    · exact b3.at fun o e => (sb.2 _ D.i1z).trans e
    · exact b4.at fun o e => (sb.2 _ D.i2z).trans e
    · have lc : c < s.heap.objs.size := by
        obtain ⟨_, f1, _⟩ := t1
        obtain ⟨_, f2, _⟩ := t2
        rcases five hcm with e | e | e | e | e <;> rw [e]
        · exact lz
        · exact Heap.lt_size a2
        · exact Heap.lt_size a3
        · exact Heap.lt_size f1
        · exact Heap.lt_size f2
      rw [upd_ne (Nat.ne_of_lt lc)]
      exact (hf c hcm).1
  done := by
    intro X hP hw hK hc n pins s σ H E J hf st hg
    subst hP hw hK
    obtain ⟨a1, a2, ⟨x0, y0, a3⟩, t1, t2⟩ := st
    obtain ⟨xs, qx, hend⟩ := hg
    obtain ⟨us, ru, p1, _⟩ := J.list qx
    have l1 := ru.length
    refine zm_stop (J.ok.hd hc) D a1 a2 a3 t1 p1.isList (by simp; omega) fun g hk => ⟨rfl, J.turnedL (t' := s.toks) (ch := [z, I, O, i, j]) (fun c o hb e => ?_) hf⟩
    have m : ∀ {d : Addr}, d ∈ [z, I, O, i, j] → c ≠ d := fun hd x => hb (x ▸ hd)
    exact hk c o (m (by simp)) (m (by simp)) (m (by simp)) (m (by simp)) e
  self := fun A i s Q E st h => wpAny_pyIter_zip st.1 h
def iZipB (K : PySem.W.Frag) (ta : TA) : TI := fun σ H R => ta σ H fun us H1 => ∃ p q xs ys, us = [.ref p, .ref q] ∧ SqL K H1 p xs ∧ ((SqL K H1 q ys ∧ R (Itz K p q) H1) ∨ (SqT K H1 q ys ∧ R (ItzM K p q) H1))
theorem pi_zipB {X : Cx} {e f : Expr} {ta : TA} {c pos tpos : Pos} {elts : List Expr} {kk : Nat} (hg : Gl X "zip") (hm : X.mg "zip" = none) (ha : PA X [e, f] ta)
    (hs : starEach [e, f] X.env = (false, eval e X.env) :: starEach [f] X.env := by rfl) (hpl : (backTo pos (starEach [f] X.env)).any (·.1) = false := by rfl) : PI X (.Tuple elts kk tpos) (.Call (.Name "zip" c) [e, f] [] pos) (iZipB X.K ta) := by
  refine ⟨fun pins s σ H R I h => Call_ (ld_blt I hg hm PyProof.Rows.boot_zip (PyProof.Rows.callWith_type1 (thn (ha.run pos pins s σ H _ I h) fun us s1 ⟨vs, H1, I1, r1, p, q, xs, ys, ex, qx, rest⟩ => ?_) hs hpl))⟩
  subst ex
  obtain ⟨u1, u2, rfl, ra, rb⟩ := vals2 r1
  obtain rfl : u1 = Value.ref p := ra
  obtain rfl : u2 = Value.ref q := rb
  obtain ⟨us, ru, p1, _⟩ := I1.list qx
  have new : ∀ c, c ∈ [s1.heap.objs.size + 4, s1.heap.objs.size + 2, s1.heap.objs.size + 3, s1.heap.objs.size, s1.heap.objs.size + 1] → FpOk X pins H1 c := fun c hc => by
    have le : s1.heap.objs.size ≤ c := by rcases five hc with e | e | e | e | e <;> rw [e] <;> first | exact Nat.le_refl _ | exact Nat.le_add_right _ _
    exact I1.fpOk le (I1.hok.fresh le)
  rcases rest with ⟨qy, hR⟩ | ⟨qy, hR⟩
  · obtain ⟨vs, rv, p2, _⟩ := I1.list qy
    refine call_zip_2 p1.isList p2.isList fun g b1 b2 b3 b4 b5 b6 b7 => wpAny_pyIter_zip b1 ?_
    exact ⟨s1.heap.objs.size + 4, _, _, _, H1, rfl, I1.kept (t' := s1.toks) b7, turn_zip (PySem.W.ktu_apart s1.heap.objs.size p q p1.lt p2.lt), ⟨b1, b2, ⟨_, _, b3⟩, b4, b5⟩, new, hR⟩
  · obtain ⟨vs, rv, p2, _⟩ := I1.tuple qy
    obtain ⟨o2, ho2, _⟩ := id p2
    refine zm_call p1.isList p2 fun g b1 b2 b3 b4 b5 b6 b7 => wpAny_pyIter_zip b1 ?_
    exact ⟨s1.heap.objs.size + 4, _, _, _, H1, rfl, I1.kept (t' := s1.toks) b7, zm_turn (PySem.W.ktu_apart s1.heap.objs.size p q p1.lt (Heap.lt_size ho2)), ⟨b1, b2, ⟨_, _, b3⟩, b4, b5⟩, new, hR⟩
/-- for x, y in zip(a list, a list or a tuple) of one length -/
theorem forZipB {g : TG} {tb : TS} {D : Ends} {σ : L2.St} {H : Hp} {K : PySem.W.Frag} {p q : Addr} {xs ys : List V} (hl : xs.length = ys.length) (hp : SqL K H p xs) (hq : RowAt H q ys) (Pv : Nat → L2.St → Hp → Prop) (h0 : Pv 0 σ H)
    (hk : ∀ i σ H', Pv i σ H' → SqL K H' p xs ∧ ∀ o, H q = some o → H' q = some o)
    (hs : ∀ (i : Nat) (x y : V) (t : Addr) (σ : L2.St) (H' : Hp), xs[i]? = some x → ys[i]? = some y → Pv i σ H' → H' t = none → g (.ref t) σ (upd H' t (.tup [x, y])) fun σ2 H2 => tb { D with nx := Pv (i + 1), ct := Pv (i + 1), bk := D.nx } σ2 H2)
    (hd : ∀ σ H', Pv xs.length σ H' → D.nx σ H') :
    ∃ xs, SqL K H p xs ∧ ∃ ys, (SqL K H q ys ∧ contF g tb D σ (Itz K p q) H) ∨ (SqT K H q ys ∧ contF g tb D σ (ItzM K p q) H) := by
  have at2 : ∀ {i : Nat}, i < xs.length → ∃ x y, xs[i]? = some x ∧ ys[i]? = some y := fun h => ⟨_, _, List.getElem?_eq_getElem h, List.getElem?_eq_getElem (hl ▸ h)⟩
  refine ⟨xs, hp, ys, ?_⟩
  rcases hq with e | e
  · refine .inl ⟨SqL.of e, fun i m σ H' => m = xs.length - i ∧ i ≤ xs.length ∧ Pv i σ H', ⟨_, rfl, Nat.zero_le _, h0⟩, ?_⟩
    rintro i m σ H' ⟨rfl, hi, pv⟩
    obtain ⟨qx, ky⟩ := hk i σ H' pv
    have qy : SqL K H' q ys := SqL.of (ky _ e)
    by_cases hlt : i < xs.length
    · obtain ⟨x, y, hx, hy⟩ := at2 hlt
      refine .inr ⟨⟨xs, ys, x, y, qx, qy, hx, hy⟩, Pv (i + 1), fun σ' H2 p' => ⟨xs.length - (i + 1), by omega, rfl, hlt, p'⟩, ?_⟩
      rintro v H2 ⟨t, x', y', rfl, ht, rfl, f1, f2⟩
      exact hs i x' y' t σ H' (f1 xs qx) (f2 ys qy) pv ht
    · have ei : i = xs.length := by omega
      rw [ei] at pv
      exact .inl ⟨⟨xs, ys, qx, qy, .inl (by omega)⟩, hd σ H' pv⟩
  · refine .inr ⟨SqT.of e, fun i m σ H' => m = xs.length - i ∧ i ≤ xs.length ∧ Pv i σ H', ⟨_, rfl, Nat.zero_le _, h0⟩, ?_⟩
    rintro i m σ H' ⟨rfl, hi, pv⟩
    obtain ⟨qx, ky⟩ := hk i σ H' pv
    have qy : SqT K H' q ys := SqT.of (ky _ e)
    by_cases hlt : i < xs.length
    · obtain ⟨x, y, hx, hy⟩ := at2 hlt
      refine .inr ⟨⟨xs, ys, x, y, ⟨qx, qy⟩, hx, hy⟩, Pv (i + 1), fun σ' H2 p' => ⟨xs.length - (i + 1), by omega, rfl, hlt, p'⟩, ?_⟩
      rintro v H2 ⟨t, x', y', ⟨rfl, ht⟩, rfl, f1, f2⟩
      exact hs i x' y' t σ H' (f1 xs qx) (f2 ys qy) pv ht
    · have ei : i = xs.length := by omega
      rw [ei] at pv
      exact .inl ⟨⟨xs, qx, by omega⟩, hd σ H' pv⟩
end AK
set_option Elab.async false
set_option linter.all false
set_option maxRecDepth 100000
set_option maxHeartbeats 4000000
namespace AK
open PySem PySem.Spec PyProof.Rows L2
/-! ### set(l) of a list of ints -/
/-- a set with nothing in it -/
def noSet (w : World) : Obj := { cls := .type "set", dict := none, data := .set #[] 0 (.fresh 0 0 (!w.params.followText "set-order")) }
section
variable {P : Program} {w : World} {A : Around} {E : Value → Shared → Prop} {s : Shared}
/-- set(x): what set.__init__ makes of a new set and x -/
theorem set_call {x : Value} {Q : Value → Shared → Prop}
    (hi : codeAny (model P w) A.in1 (.call (.builtin "set.__init__") ⟨[.ref s.heap.objs.size, x], []⟩) (wants (fun r s2 => r = .none ∧ Q (.ref s.heap.objs.size) s2) E) { s with heap := s.heap.push (noSet w) }) :
    wpAny (model P w) A (call (.type "set") [x]) Q E s := by
  have t1 := F.called_set.made
  have t2 := F.called_set.sub
  have t3 := F.called_set.notType
  have t4 := F.called_set.canCreate
  have t5 := F.typeCall_set_1 x
  have t6 := F.called_set.init.lookup
  have t7 := F.called_set.init.bind (.ref s.heap.objs.size)
  have t8 : Shared.TypeIs { s with heap := s.heap.push (noSet w) } (.ref s.heap.objs.size) "set" := ⟨_, Heap.get?_push_size _ rfl, rfl⟩
  obtain ⟨_, _, t9⟩ := F.called_set.mro
  refine wpAny_call (codeAny_of_tree (wpAny_pure ⟨Code.quiet_builtin _ (by decide +kernel), codeAny_builtin F.entry_type_call ?_⟩))
  rw [Around.under_plain (weight_type_call_type "set" [x] []) rfl]
  repeat (any_goals (first | assumption | wp_step))
  refine codeAny_mono (code_set_led1 x (E := E) (Q₁ := fun obj s1 => obj = .ref s.heap.objs.size ∧ s1 = { s with heap := s.heap.push (noSet w) }) ⟨rfl, rfl⟩) fun r s1 hr => ?_
  match r, hr with
  | .error _, hr => exact hr
  | .ok (.ret _), ⟨e1, e2⟩ =>
    subst e1 e2
    repeat (any_goals (first | assumption | wp_step))
    refine codeAny_mono hi fun r2 s2 h2 => ?_
    match r2, h2 with
    | .error _, h2 => exact h2
    | .ok (.ret _), ⟨e1, h2⟩ =>
      subst e1
      repeat (any_goals (first | assumption | wp_step))
theorem set_of_list {l : Addr} {its : Array Value} (ns : List Int) {Q : Value → Shared → Prop} (hh : A.handled = none) (hl : s.heap.IsList l its) (hi : IntsAre its.toList ns) (hb : ns.length + 1 < scanBound)
    (h : ∀ (h' : Heap) (tk c : Nat), SetR w h' s.heap.objs.size (fun j => decide (j ∈ ns)) c → c ≤ ns.length → (∀ b o, s.heap.get? b = some o → h'.get? b = some o) → Q (.ref s.heap.objs.size) { s with heap := h', toks := tk }) :
    wpAny (model P w) A (call (.type "set") [.ref l]) Q E s := by
  have old : ∀ b o, s.heap.get? b = some o → (s.heap.push (noSet w)).get? b = some o := fun b o e => Heap.get?_push_of_some _ e
  have new : (s.heap.push (noSet w)).get? s.heap.objs.size = some (noSet w) := Heap.get?_push_size _ rfl
  refine set_call (codeAny_call_builtin F.called_set.init.plain F.entry_set_init (check_set_init_1 ⟨_, new, rfl⟩ ?_))
  obtain ⟨⟨k, dd, dt, sl⟩, ho, hk, n, hd⟩ := hl
  simp only at hk hd
  subst hk hd
  have l1 : (s.heap.push (noSet w)).IsList l its := ⟨_, old _ _ ho, rfl, n, rfl⟩
  have q1 := F.sub_list_set
  have q2 := F.sub_list_frozenset
  have q3 : (Value.type "list" == Value.type "dict") = false := by decide
  have q4 := sub_set_self
  have q5 := old _ _ ho
  have q6 := new
  unfold Builtin.«set.__init__» noKeywords Builtin.Frozenset.updateFrom
  generalize hPI : pyIter = PI
  wp_walk
  subst hPI
  refine wpAny_pyIter_list l1 ?_
  refine wpAny_bind (wpAny_runValue ?_)
  have hlS : l < s.heap.objs.size := Heap.lt_size ho
  have zS : (s.heap.push (noSet w)).objs.size = s.heap.objs.size + 1 := Heap.size_push ..
  have hlen : its.size = ns.length := by
    have z := IntsAre.length hi
    rwa [Array.length_toList] at z
  refine set_update_ints ((Walks.list (by simp [hh]) (s.heap.push (noSet w)).objs.size l (by rw [zS]; exact Nat.ne_of_lt (Nat.lt_succ_of_lt hlS)) its).toS) s.heap.objs.size (by simp only [List.mem_cons, List.not_mem_nil, or_false, not_or]; exact ⟨by rw [zS]; exact Nat.ne_of_lt (Nat.lt_succ_self _), Nat.ne_of_gt hlS⟩) ns hlen hb (fun i v hv => ?_) its.size 0 _ (by omega) (Nat.zero_le _)
    ⟨⟨_, Heap.get?_push_size _ rfl, rfl, rfl⟩, l1.push _⟩ ⟨0, Nat.le_refl 0, setR_new_at (Heap.get?_push_of_some _ new)⟩ fun s' c m hc hS => ?_
  · have hil : i < ns.length := by rw [← hlen]; exact (Array.getElem?_eq_some_iff.mp hv).1
    obtain ⟨t, e⟩ := IntsAre.int_at hi i v (by rw [Array.getElem?_toList]; exact hv)
    refine ⟨ns[i], t, List.getElem?_eq_getElem hil, ?_⟩
    rw [e, List.getD_eq_getElem?_getD, List.getElem?_eq_getElem hil]
    rfl
  · obtain ⟨h', g', d', tk', o'⟩ := s'
    obtain rfl : g' = s.gens := m.gens
    obtain rfl : d' = s.drawn := m.drawn
    obtain rfl : o' = s.os := m.os
    refine wpAny_pure (wpAny_pure ⟨rfl, h h' tk' c hS (by omega) fun b o e => ?_⟩)
    have hb0 : b < s.heap.objs.size := Heap.lt_size e
    exact m.heap b o (by simp only [List.mem_cons, List.not_mem_nil, or_false, not_or]; exact ⟨Nat.ne_of_lt hb0, by rw [zS]; exact Nat.ne_of_lt (Nat.lt_succ_of_lt hb0)⟩) (Heap.get?_push_of_some _ (old b o e))
end
/-! ### its rule -/
def rSetLI (K : PySem.W.Frag) (w : World) : List V → Hp → VK → Prop := fun vs H Q => ∃ (a : Addr) (ns : List Int), vs = [V.ref a] ∧ SqL K H a (ns.map V.int) ∧ ns.length + 1 < scanBound ∧ ∀ p c, c ≤ ns.length → H p = none → Q (.ref p) (upd H p (SetO w p (fun j => decide (j ∈ ns)) c))
theorem cr_setLI {X : Cx} (hc : X.calm = true) : CallR X (.type "set") (rSetLI X.K X.w) := by
  intro pins s σ H vs us Q I r h
  obtain ⟨a, ns, rfl, hs, hb, q⟩ := h
  rw [Vals.ref1 r]
  obtain ⟨its, rv, pl, hz⟩ := I.list hs
  refine set_of_list ns (I.ok.hd hc) pl.isList (by simpa using ints_of_vals rv) hb fun h' tk c hS hcn hk => ?_
  exact ⟨.ref _, upd H s.heap.objs.size (SetO X.w s.heap.objs.size (fun j => decide (j ∈ ns)) c), I.laid (t' := tk) hk (Nat.le_refl _) (setO_new hS), rfl, q _ c hcn (I.hok.fresh (Nat.le_refl _))⟩
end AK
set_option Elab.async false
set_option linter.all false
set_option maxRecDepth 100000
set_option maxHeartbeats 4000000
namespace AK
open PySem PySem.Spec PyProof.Rows L2
/-! ### min(l) of a list of alike data -/
theorem vals_at : ∀ {vs : List V} {us : List Value}, Vals vs us → ∀ (i : Nat) (u : Value), us[i]? = some u → ∃ v, vs[i]? = some v ∧ RelV v u
  | _, _, .nil, i, u, h => by cases h
  | _, _, .cons r rs, 0, u, h => ⟨_, rfl, by cases h; exact r⟩
  | _, _, .cons r rs, i + 1, u, h => vals_at rs i u h
def rMinD (K : PySem.W.Frag) : List V → Hp → VK → Prop := fun vs H Q => ∃ (a : Addr) (xs : List V) (x : PyData) (ds : List PyData), vs = [V.ref a] ∧ SqL K H a xs ∧ DpAll K H xs (x :: ds) ∧ PySem.W.AlikeAll (x :: ds) ∧ PyData.depthAll (x :: ds) ≤ 60 ∧
  ∀ (i : Nat) (v : V), xs[i]? = some v → (x :: ds)[i]? = some (PySem.W.minD x ds) → Q v H
theorem cr_minD {X : Cx} (hc : X.calm = true) (hu : X.A.units + 64 < cLine) : CallR X (.builtin "min") (rMinD X.K) := by
  intro pins s σ H vs us Q I r h
  obtain ⟨a, xs, x, ds, rfl, hs, hd, hal, h60, q⟩ := h
  rw [Vals.ref1 r]
  obtain ⟨its, rv, pl, hz⟩ := I.list hs
  obtain ⟨as, hr⟩ := Dp.readsAll I (x :: ds) xs its hd rv
  refine PySem.W.min_list_data (I.ok.hd hc) pl.isList (by simpa using hr) hal (by omega) fun i v h' tk bs hi hm hk => ?_
  have hi' : its[i]? = some v := by simpa using hi
  obtain ⟨y, hy, ry⟩ := vals_at rv i v hi'
  obtain ⟨bs2, r2, r3, _, _⟩ := PySem.W.readsAll_atA (vs := its.toArray) (by simpa using hr) i v hi
  have e := (reads_det (fun b o e _ => hk b o e) r2 hm).1
  refine ⟨y, H, I.kept hk, ry, q i y hy ?_⟩
  rw [e, List.getElem?_eq_getElem r3, List.getD_eq_getElem?_getD, List.getElem?_eq_getElem r3]
  rfl
/-! ### xs + ys of tuples, the left one perhaps empty -/
def rCatTA (K : PySem.W.Frag) : R2 := fun x y H Q => ∃ a b xs ys, x = .ref a ∧ y = .ref b ∧ SqT K H a xs ∧ SqT K H b ys ∧ ys ≠ [] ∧ xs.length + ys.length ≤ sizeLine ∧ (xs = [] → Q (.ref b) H) ∧ (xs ≠ [] → ∀ p, H p = none → Q (.ref p) (upd H p (.tup (xs ++ ys))))
theorem op_catTA {X : Cx} : OpR X (binaryOp .Add) (rCatTA X.K) := by
  intro pins s σ H x y v u Q I rx ry h
  obtain ⟨a, b, xs, ys, rfl, rfl, ha, hb, hy, hz, q0, q1⟩ := h
  by_cases hx : xs = []
  · subst hx
    cases rx
    cases ry
    obtain ⟨its, r1, p1, _⟩ := I.tuple ha
    obtain ⟨its2, r2, p2, _⟩ := I.tuple hb
    have e1 : its = [] := r1.nil_iff.mpr rfl
    subst e1
    obtain ⟨⟨c1, d1, dt1, s1⟩, o1, k1, n1, h1⟩ := id p1
    obtain ⟨⟨c2, d2, dt2, s2⟩, o2, k2, n2, h2⟩ := id p2
    simp only at k1 h1 k2 h2
    subst k1 h1 k2 h2
    exact concat_meets ⟨_, o1, rfl⟩ ⟨_, o2, rfl⟩ noFill_tuple_add seq_tuple_add PySem.F.slot_tuple_add PySem.F.entry_tuple_add (PySem.F.args_tuple_add_2 _ _) (tuple_addW0 a b #[] its2.toArray n1 n2 d1 d2 s1 s2 rfl) ⟨o1, o2, ⟨.ref b, H, I, rfl, q0 rfl⟩⟩
  · exact op_catT pins s σ H _ _ v u Q I rx ry ⟨a, b, xs, ys, rfl, rfl, ha, hb, hx, hz, fun e => absurd e hy, fun _ => q1 hx⟩
def rCatTH : R2 := fun x y H Q => ∃ a b xs ys, x = .ref a ∧ y = .ref b ∧ H a = some (.tup xs) ∧ H b = some (.tup ys) ∧ ys ≠ [] ∧ xs.length + ys.length ≤ sizeLine ∧ (xs = [] → Q (.ref b) H) ∧ (xs ≠ [] → ∀ p, H p = none → Q (.ref p) (upd H p (.tup (xs ++ ys))))
theorem op_catTH {X : Cx} : OpR X (binaryOp .Add) rCatTH := by
  intro pins s σ H x y v u Q I rx ry h
  obtain ⟨a, b, xs, ys, e1, e2, ha, hb, z⟩ := h
  exact op_catTA pins s σ H x y v u Q I rx ry ⟨a, b, xs, ys, e1, e2, SqT.of ha, SqT.of hb, z⟩
theorem units1 {k : Nat} {A : Around} (r : Room k A) : A.units + 1 < cLine := by
  have := r.units
  omega
/-- d[k], d[k] = v, k in d: entries of numbers -/
def en (p : Nat × Nat) : L2.Key × V := (.inl (p.1 : Int), .int (p.2 : Int))
theorem val_en (m : Nat) : ∀ ws : List (Nat × Nat), (valV (ws.map en) (.inl (m : Int)) = none ∧ ∀ t, (m, t) ∉ ws) ∨ ∃ t, (m, t) ∈ ws ∧ valV (ws.map en) (.inl (m : Int)) = some (.int (t : Int))
  | [] => .inl ⟨rfl, fun _ h => (List.not_mem_nil h).elim⟩
  | (k, b) :: ws => by
    by_cases e : k = m
    · subst e
      exact .inr ⟨b, List.mem_cons_self, valV_pos rfl⟩
    · have ne : ¬ (en (k, b)).1 = (.inl (m : Int) : L2.Key) := fun z => e (by have := Sum.inl.inj z; exact_mod_cast this)
      rw [List.map_cons, valV_neg ne]
      rcases val_en m ws with ⟨h1, h2⟩ | ⟨t, h1, h2⟩
      · refine .inl ⟨h1, fun t ht => ?_⟩
        rcases List.mem_cons.mp ht with z | z
        · exact e (Prod.mk.inj z).1.symm
        · exact h2 t z
      · exact .inr ⟨t, List.mem_cons_of_mem _ h1, h2⟩
theorem put_en {m : Nat} {ws : List (Nat × Nat)} (h : ∀ t, (m, t) ∉ ws) (b : Nat) : putK (ws.map en) (.inl (m : Int)) (.int (b : Int)) = (ws ++ [(m, b)]).map en := by
  unfold putK
  rw [if_neg, List.map_append]
  · rfl
  · rw [Bool.not_eq_true, List.any_eq_false]
    intro x hx z
    obtain ⟨⟨k, c⟩, hk, rfl⟩ := List.mem_map.mp hx
    have e := Sum.inl.inj (of_decide_eq_true z)
    have e : k = m := by exact_mod_cast e
    exact h c (e ▸ hk)
/-- while, by a word that holds a number which falls -/
theorem while_gh {c : TT} {tb : TS} {D : Ends} {σ : L2.St} {H : Hp} (Pv : Nat → L2.St → Hp → Prop) (n0 : Nat) (h0 : Pv n0 σ H)
    (hs : ∀ n σ H, Pv n σ H → c σ H fun b H1 => if b = true then tb { D with nx := fun σ' H' => ∃ n', n' < n ∧ Pv n' σ' H', ct := fun σ' H' => ∃ n', n' < n ∧ Pv n' σ' H', bk := D.nx } σ H1 else D.nx σ H1)
    (mono : ∀ σ H Q Q', (∀ b H1, Q b H1 → Q' b H1) → c σ H Q → c σ H Q') : tWhile c tb D σ H :=
  ⟨Pv, ⟨n0, h0⟩, fun n σ H p => mono σ H _ _ (fun b H1 q => by
    cases b with
    | true => exact ⟨_, fun σ' H' z => z, q⟩
    | false => exact q) (hs n σ H p)⟩
end AK
set_option Elab.async false
set_option linter.all false
set_option maxRecDepth 100000
set_option maxHeartbeats 4000000
namespace AK
open PySem PySem.Spec PyProof.Rows L2 PySem.W
def tI (l : List Nat) : List PyData := l.map fun n : Nat => PyData.int (n : Int)
/-- a row of the length and the numbers, as data -/
def toR (l : List Nat) : PyData := .tuple [.int (l.length : Nat), .tuple (tI l)]
theorem alike_ints : ∀ A B : List Nat, alikeAll (tI A) (tI B) = true
  | [], B => by simp [tI, alikeAll]
  | _ :: _, [] => by simp [tI, alikeAll]
  | a :: A, b :: B => by
    have ih := alike_ints A B
    unfold tI at ih ⊢
    rw [List.map_cons, List.map_cons, alikeAll, ih, alike]
    rfl
theorem alike_toR (A B : List Nat) : alike (toR A) (toR B) = true := by
  unfold toR
  simp [alike, alikeAll, alike_ints A B]
theorem eqv_int (a b : Nat) : PyData.eqv (.int (a : Int)) (.int (b : Int)) = decide (a = b) := by
  rw [PyData.eqv]
  by_cases h : a = b
  · simp [h]
  · have h2 : ¬ (a : Int) = (b : Int) := fun z => h (by exact_mod_cast z)
    simp [h, h2]
theorem eqv_tI : ∀ A B : List Nat, PyData.eqvAll (tI A) (tI B) = decide (A = B)
  | [], [] => rfl
  | [], _ :: _ => by simp [tI, PyData.eqvAll]
  | _ :: _, [] => by simp [tI, PyData.eqvAll]
  | a :: A, b :: B => by
    have ih := eqv_tI A B
    unfold tI at ih ⊢
    rw [List.map_cons, List.map_cons, PyData.eqvAll, ih, eqv_int]
    by_cases h : a = b <;> by_cases h2 : A = B <;> simp [h, h2]
theorem eqv_tup (A B : List Nat) : PyData.eqv (.tuple (tI A)) (.tuple (tI B)) = decide (A = B) := by
  rw [PyData.eqv]
  exact eqv_tI A B
theorem lt_tI : ∀ A B : List Nat, PyProof.Rows.lexLt itemOrd (keyToksAll (tI A)) (keyToksAll (tI B)) = lexL A B
  | [], [] => by decide +kernel
  | [], b :: B => by
    show PyProof.Rows.lexLt itemOrd (.inl 0 :: []) (.inl 1 :: _) = true
    rw [lex_atom (by simp), lex_one]
    decide +kernel
  | a :: A, [] => by
    show PyProof.Rows.lexLt itemOrd (.inl 1 :: _) (.inl 0 :: []) = false
    rw [lex_atom (by simp), lex_one]
    decide +kernel
  | a :: A, b :: B => by
    have ih := lt_tI A B
    have al : alike (.int (a : Int)) (.int (b : Int)) = true := by rw [alike]
    show PyProof.Rows.lexLt itemOrd (keyToksAll (.int (a : Int) :: tI A)) (keyToksAll (.int (b : Int) :: tI B)) = _
    unfold lexL
    by_cases h : a = b
    · rw [dataLt_all_yes al (by rw [eqv_int]; exact decide_eq_true h), ih]
      simp [h]
    · rw [dataLt_all_no al (by rw [eqv_int]; exact decide_eq_false h), dataLt_int]
      simp [h]
theorem lt_toR (A B : List Nat) : dataLt (toR A) (toR B) = ltR A B := by
  unfold toR
  rw [dataLt_tuple]
  have al : alike (.int (A.length : Nat)) (.int (B.length : Nat)) = true := by rw [alike]
  have al2 : alike (.tuple (tI A)) (.tuple (tI B)) = true := by rw [alike]; exact alike_ints A B
  unfold ltR
  by_cases h : A.length = B.length
  · rw [dataLt_all_yes al (by rw [eqv_int]; exact decide_eq_true h)]
    by_cases h2 : A = B
    · rw [dataLt_all_yes al2 (by rw [eqv_tup]; exact decide_eq_true h2), h2]
      have z := ltR_self B
      unfold ltR at z
      rw [z]
      exact lt_tI [] []
    · rw [dataLt_all_no al2 (by rw [eqv_tup]; exact decide_eq_false h2), dataLt_tuple, lt_tI]
      simp [h]
  · rw [dataLt_all_no al (by rw [eqv_int]; exact decide_eq_false h), dataLt_int]
    simp [h]
theorem minD_toR : ∀ (xs : List (List Nat)) (x : List Nat), minD (toR x) (xs.map toR) = toR (minR x xs)
  | [], x => rfl
  | y :: xs, x => by
    have ih := minD_toR xs
    show minD (if dataLt (toR y) (toR x) = true then toR y else toR x) (xs.map toR) = toR (minR (if ltR y x = true then y else x) xs)
    rw [lt_toR]
    split
    · exact ih y
    · exact ih x
theorem alikeAll_toR (xs : List (List Nat)) : AlikeAll (xs.map toR) := by
  refine ⟨fun x hx y hy => ?_, fun x hx => ?_⟩
  · obtain ⟨A, _, rfl⟩ := List.mem_map.mp hx
    obtain ⟨B, _, rfl⟩ := List.mem_map.mp hy
    exact alike_toR A B
  · obtain ⟨A, _, rfl⟩ := List.mem_map.mp hx
    intro z
    cases z
theorem depth_toR : ∀ xs : List (List Nat), PyData.depthAll (xs.map toR) ≤ 5
  | [] => by simp [PyData.depthAll]
  | A :: xs => by
    have h := depth_toR xs
    have h2 := depAll_int A
    simp [PyData.depthAll, PyData.depth, toR, tI]
    omega
theorem tI_inj : ∀ {A B : List Nat}, tI A = tI B → A = B
  | [], [], _ => rfl
  | [], _ :: _, h => by cases h
  | _ :: _, [], h => by cases h
  | a :: A, b :: B, h => by
    obtain ⟨h1, h2⟩ := List.cons.inj (show PyData.int (a : Int) :: tI A = PyData.int (b : Int) :: tI B from h)
    rw [tI_inj h2, show a = b from by have := PyData.int.inj h1; exact_mod_cast this]
theorem toR_inj {A B : List Nat} (h : toR A = toR B) : A = B := by
  unfold toR at h
  have h1 := PyData.tuple.inj h
  have h2 := (List.cons.inj h1).2
  exact tI_inj (PyData.tuple.inj (List.cons.inj h2).1)
end AK
set_option Elab.async false
set_option linter.all false
set_option maxRecDepth 100000
set_option maxHeartbeats 4000000
namespace AK
open PySem PySem.Spec PyProof.Rows L2
/-! ### dict comprehensions, folded -/
def contD (g : TG) (tt : TT) (tk tv : TE) (vs : List Nat) (σ : L2.St) (Q : VK) : It → Hp → Prop := fun J H1 => ∀ D, H1 D = none → ∃ W : Nat → Nat → Hp → Prop, (∃ m, W 0 m (upd H1 D (.dK []))) ∧ ∀ i m H, W i m H →
  (J.stop i H ∧ Q (.ref D) H) ∨ (J.go i H ∧ ∃ Nx : Hp → Prop, (∀ H', Nx H' → ∃ m', m' < m ∧ W (i + 1) m' H') ∧ ∀ x H', J.yld i H x H' → g x (wipe σ vs) H' fun σ2 H2 => wipe σ2 vs = wipe σ vs ∧ tt σ2 H2 fun b H3 =>
    if b = true then tk σ2 H3 fun y H4 => tv σ2 H4 fun z H5 => ∃ kvs k, y = kV k ∧ H5 D = some (.dK kvs) ∧ kvs.length < sizeLine ∧ Nx (upd H5 D (.dK (putK kvs k z))) else Nx H3)
theorem tDc_c {wi : TI} {g : TG} {tt : TT} {tk tv : TE} {vs : List Nat} {σ : L2.St} {H : Hp} {Q : VK} : tDc wi g tt tk tv vs σ H Q = wi σ H (contD g tt tk tv vs σ Q) := rfl
/-! ### sorted(l) of alike data -/
theorem dpAll_of {K : PySem.W.Frag} {H : Hp} {β : Type} {val : β → V} {enc : β → PyData} : ∀ {bs : List β}, (∀ b ∈ bs, Dp K H (val b) (enc b)) → DpAll K H (bs.map val) (bs.map enc)
  | [], _ => .nil
  | b :: bs, h => .cons (h b List.mem_cons_self) (dpAll_of fun c hc => h c (List.mem_cons_of_mem _ hc))
theorem each_of {β : Type} {val : β → V} : ∀ {bs : List β} {us : List Value}, Vals (bs.map val) us → PySem.W.EachIs (fun u b => RelV (val b) u) us bs
  | [], _, .nil => .nil
  | b :: bs, _, .cons r rs => .cons r (each_of rs)
theorem of_each {β : Type} {val : β → V} : ∀ {bs : List β} {us : List Value}, PySem.W.EachIs (fun u b => RelV (val b) u) us bs → Vals (bs.map val) us
  | _, _, .nil => .nil
  | _, _, .cons r rs => .cons r (of_each rs)
def rSortedD (K : PySem.W.Frag) : List V → Hp → VK → Prop := fun vs H Q => ∃ (a : Addr) (β : Type) (bs : List β) (val : β → V) (enc : β → PyData), vs = [V.ref a] ∧ SqL K H a (bs.map val) ∧ (∀ b ∈ bs, Dp K H (val b) (enc b)) ∧ PySem.W.AllAlike (bs.map enc) ∧ PySem.W.Sortable (bs.map enc) ∧ (∀ b ∈ bs, (enc b).depth ≤ 50) ∧
  ∀ p, H p = none → Q (.ref p) (upd H p (.lst ((bs.mergeSort (PySem.W.dataLe false enc)).map val)))
theorem cr_sortedD {X : Cx} (hu : X.A.units + 64 < cLine) : CallR X (.builtin "sorted") (rSortedD X.K) := by
  intro pins s σ H vs us Q I r h
  obtain ⟨a, β, bs, val, enc, rfl, hs, hd, hal, hk, h50, q⟩ := h
  obtain ⟨its, rv, hl, hz⟩ := I.list hs
  rw [Vals.ref1 r]
  obtain ⟨as, hr⟩ := Dp.readsAll I (bs.map enc) (bs.map val) its (dpAll_of hd) rv
  have er := PySem.W.readsAll_each enc hr
  have ee := each_of rv
  have hz' : bs.length ≤ sizeLine := by
    rw [List.length_map] at hz
    exact hz
  refine PySem.W.sorted_data hl.isList ee er hal hk hz' (fun b hb => by have := h50 b hb; omega) fun out hlen hout => ?_
  have ov := of_each hout
  obtain ⟨ep, he'⟩ := PyProof.Rows.sortedAll_at s.heap its out.toArray
  refine ⟨.ref _, upd H (s.heap.objs.size + 1) (.lst ((bs.mergeSort (PySem.W.dataLe false enc)).map val)), I.laid (t' := s.toks) (fun _ _ => PyProof.Rows.sortedAll_old) (Nat.le_succ _) ⟨?_, out, ep, ov, he'⟩, rfl, q _ (I.hok.fresh (Nat.le_succ _))⟩
  rw [List.length_map, (List.mergeSort_perm _ _).length_eq]
  exact hz'
/-! ### all sets of nodes, in order -/
def combs : Nat → List Nat → List (List Nat)
  | 0, _ => [[]]
  | _ + 1, [] => []
  | k + 1, x :: l => (combs k l).map (x :: ·) ++ combs (k + 1) l
/-- the sets of the first n nodes -/
def osets (n : Nat) : List (List Nat) := (List.range n).flatMap fun s => combs (s + 1) ((List.range n).map (65 + ·))
def fndP (L : List Nat) : List (List Nat) := L.foldl (fun F c => F ++ F.map (· ++ [c])) [[]]
def fnd (n : Nat) : List (List Nat) := fndP ((List.range n).map (65 + ·))
theorem fnd_succ (n : Nat) : fnd (n + 1) = fnd n ++ (fnd n).map (· ++ [65 + n]) := by
  unfold fnd fndP
  rw [List.range_succ, List.map_append, List.foldl_append]
  rfl
theorem fnd_b_all : (List.range 7).all (fun n => decide ((fnd n).length ≤ 64) && (fnd n).all fun l => decide (l.length ≤ 6)) = true := by decide +kernel
theorem fnd_b {n : Nat} (h : n ≤ 6) : (fnd n).length ≤ 64 ∧ ∀ l ∈ fnd n, l.length ≤ 6 := by
  have z := List.all_eq_true.mp fnd_b_all n (List.mem_range.mpr (by omega))
  rw [Bool.and_eq_true] at z
  exact ⟨of_decide_eq_true z.1, fun l hl => of_decide_eq_true (List.all_eq_true.mp z.2 l hl)⟩
abbrev tsL (F : List (List Nat)) : List V := F.map fun l => V.str (tx l)
theorem tsL_at {F : List (List Nat)} {i : Nat} {x : V} (h : (tsL F)[i]? = some x) : ∃ l, F[i]? = some l ∧ x = V.str (tx l) := map_at h
/-- smaller sets first, then letter by letter -/
def leS (a b : List Nat) : Bool := if a.length = b.length then decide (a ≤ b) else decide (a.length < b.length)
theorem osets_b_all : (List.range 7).all (fun n => (osets n).all fun s => !s.isEmpty && s.all fun c => decide (65 ≤ c ∧ c < 65 + n)) = true := by decide +kernel
theorem osets_b {n : Nat} (h : n ≤ 6) {s : List Nat} (hs : s ∈ osets n) : s ≠ [] ∧ ∀ c ∈ s, 65 ≤ c ∧ c < 65 + n := by
  have z := List.all_eq_true.mp (List.all_eq_true.mp osets_b_all n (List.mem_range.mpr (by omega))) s hs
  rw [Bool.and_eq_true] at z
  refine ⟨fun e => ?_, fun c hc => of_decide_eq_true (List.all_eq_true.mp z.2 c hc)⟩
  rw [e] at z
  cases z.1
theorem leS_total : PySem.W.TotalLe leS := by
  refine ⟨fun a b c h1 h2 => ?_, fun a b => ?_⟩
  · unfold leS at *
    by_cases e1 : a.length = b.length
    · rw [if_pos e1] at h1
      by_cases e2 : b.length = c.length
      · rw [if_pos e2] at h2
        rw [if_pos (e1.trans e2)]
        exact decide_eq_true (List.le_trans (of_decide_eq_true h1) (of_decide_eq_true h2))
      · rw [if_neg e2] at h2
        rw [if_neg (by omega)]
        have := of_decide_eq_true h2
        exact decide_eq_true (by omega)
    · rw [if_neg e1] at h1
      have h1 := of_decide_eq_true h1
      by_cases e2 : b.length = c.length
      · rw [if_neg (by omega)]
        exact decide_eq_true (by omega)
      · rw [if_neg e2] at h2
        have h2 := of_decide_eq_true h2
        rw [if_neg (by omega)]
        exact decide_eq_true (by omega)
  · unfold leS
    by_cases e : a.length = b.length
    · rw [if_pos e, if_pos e.symm]
      rcases List.le_total a b with h | h
      · exact .inl (decide_eq_true h)
      · exact .inr (decide_eq_true h)
    · rw [if_neg e, if_neg (fun z => e z.symm)]
      by_cases h : a.length < b.length
      · exact .inl (decide_eq_true h)
      · exact .inr (decide_eq_true (by omega))
theorem leS_anti {a b : List Nat} (h1 : leS a b = true) (h2 : leS b a = true) : a = b := by
  unfold leS at *
  by_cases e : a.length = b.length
  · rw [if_pos e] at h1
    rw [if_pos e.symm] at h2
    exact List.le_antisymm (of_decide_eq_true h1) (of_decide_eq_true h2)
  · rw [if_neg e] at h1
    rw [if_neg (fun z => e z.symm)] at h2
    have := of_decide_eq_true h1
    have := of_decide_eq_true h2
    omega
theorem osets_all : (List.range 7).all (fun n => ((fnd n).filter (fun l => !l.isEmpty)).isPerm (osets n) && decide ((osets n).Pairwise fun a b => leS a b = true)) = true := by decide +kernel
theorem osets_sort {n : Nat} (h : n ≤ 6) : ((fnd n).filter (fun l => !l.isEmpty)).mergeSort leS = osets n := by
  have z := List.all_eq_true.mp osets_all n (List.mem_range.mpr (by omega))
  rw [Bool.and_eq_true] at z
  exact List.Perm.eq_of_pairwise (le := fun a b => leS a b = true) (fun a b _ _ h1 h2 => leS_anti h1 h2) (PySem.W.sort_pairwise leS_total _) (of_decide_eq_true z.2) ((List.mergeSort_perm _ _).trans (List.isPerm_iff.mp z.1))
/-- (len(x), x) as data -/
def encS (l : List Nat) : PyData := .tuple [.int (l.length : Nat), .str (tx l)]
theorem encS_le : PySem.W.dataLe false encS = leS := by
  funext a b
  have al : ∀ x y : Int, PySem.W.alike (.int x) (.int y) = true := fun x y => by rw [PySem.W.alike]
  have as : ∀ x y : Str, PySem.W.alike (.str x) (.str y) = true := fun x y => by rw [PySem.W.alike]
  show (!PySem.W.dataLt (encS b) (encS a)) = _
  unfold encS leS
  rw [PySem.W.dataLt_pair (al _ _) (as _ _), PySem.W.dataLt_int, PySem.W.dataLt_str]
  have e1 : PyData.eqv (.int (b.length : Nat)) (.int (a.length : Nat)) = decide (a.length = b.length) := by
    rw [PyData.eqv]
    by_cases h : a.length = b.length
    · simp [h]
    · have h2 : ¬ (b.length : Int) = (a.length : Int) := fun z => h (by exact_mod_cast z.symm)
      simp [h, h2]
  have e2 : PyData.eqv (.str (tx b)) (.str (tx a)) = decide (a = b) := by
    rw [PyData.eqv]
    by_cases h : a = b
    · simp [h]
    · have h2 : ¬ tx b = tx a := fun z => h (tx_inj z).symm
      simp [h, h2]
  rw [e1, e2]
  by_cases h : a.length = b.length
  · rw [decide_eq_true h, if_pos rfl, if_pos h]
    by_cases h2 : a = b
    · rw [decide_eq_true h2, if_pos rfl, h2]
      exact (decide_eq_true (List.le_refl b)).symm
    · rw [decide_eq_false h2, if_neg (by decide)]
      show (!decide (lt (tx b) < lt (tx a))) = _
      rw [lt_tx, lt_tx, ← decide_not]
      exact decide_eq_decide.mpr Iff.rfl
  · rw [decide_eq_false h, if_neg (by decide), if_neg h, ← decide_not]
    exact decide_eq_decide.mpr (by omega)
theorem alike_encS (ls : List (List Nat)) : PySem.W.AllAlike (ls.map encS) := PySem.W.AllAlike.of fun a b => by
  unfold encS
  simp [PySem.W.alike, PySem.W.alikeAll]
theorem sortable_encS (ls : List (List Nat)) : PySem.W.Sortable (ls.map encS) := PySem.W.Sortable.tuples fun b => ⟨_, _, rfl⟩
end AK
set_option Elab.async false
set_option linter.all false
set_option maxRecDepth 100000
set_option maxHeartbeats 4000000
namespace AK
open PySem PySem.Spec PyProof.Rows L2
/-! ### a, b = a text of two signs -/
section
variable {prog : Program} {w : World} {A : Around} {E : Value → Shared → Prop} {s : Shared}
theorem unpack_str2 {c d : Nat} {t : Tok} {Q : List Value → Shared → Prop} (hh : A.handled = none) (hc : c < 128) (hd : d < 128)
    (hQ : ∀ h' tk t1 t2, (∀ b o, s.heap.get? b = some o → h'.get? b = some o) → Q [.str ⟨#[c]⟩ t1, .str ⟨#[d]⟩ t2] { s with heap := h', toks := tk }) : wpAny (model prog w) A (unpackItems (.str (tx [c, d]) t) 2 none) Q E s := by
  have ha : (tx [c, d]).cps.all (· < 128) = true := by
    show (#[c, d] : Array Nat).all (· < 128) = true
    simp [hc, hd]
  unfold unpackItems
  refine wpAny_bind ?_
  unfold notIterableAtAll
  refine wpAny_bind (wpAny_specialOf (typeIs_str s (tx [c, d]) t) F.slot_str_iter.lookup ?_)
  refine wpAny_pure ?_
  simp only [Bool.false_eq_true, if_false]
  refine wpAny_bind (wpAny_holding (wpAny_pyIter_ascii ha ?_))
  have g0 : (s.heap.push { cls := .type "str_ascii_iterator", data := .fields #[.str (tx [c, d]) t, .int 0 0] }).IsStrIter s.heap.objs.size "str_ascii_iterator" (tx [c, d]) t 0 := ⟨_, Heap.get?_push_size _ rfl, rfl, rfl⟩
  have old0 : ∀ b o, s.heap.get? b = some o → (s.heap.push { cls := .type "str_ascii_iterator", data := .fields #[.str (tx [c, d]) t, .int 0 0] }).get? b = some o := fun b o e => Heap.get?_push_of_some _ e
  have ne : ∀ b o, s.heap.get? b = some o → b ≠ s.heap.objs.size := fun b o e => Nat.ne_of_lt (Heap.lt_size e)
  refine wpAny_bind (wpAny_holding (wpAny_bind (wpAny_pyNext_ascii_item g0 (c := c) rfl fun h1 g1 b1 => ?_)))
  refine wpAny_bind (wpAny_holding (wpAny_bind (wpAny_pyNext_ascii_item g1 (c := d) rfl fun h2 g2 b2 => ?_)))
  refine wpAny_bind (wpAny_holding (wpAny_pure (wpAny_pure (wpAny_pure ?_))))
  rw [if_neg (by simp)]
  refine wpAny_bind (wpAny_holding (wpAny_pyNext_ascii_end hh g2 rfl fun h3 b3 => ?_))
  simp only [Option.isSome_none, Bool.false_eq_true, if_false]
  exact wpAny_pure (hQ h3 _ _ _ fun b o e => b3 b o (ne b o e) (b2.extBut b o (ne b o e) (b1.extBut b o (ne b o e) (old0 b o e))))
end
section
variable {X : Cx}
def gStr2 (t : TGs) : TG := fun v σ H Q => ∃ c d, v = .str (tx [c, d]) ∧ c < 128 ∧ d < 128 ∧ t [.str (tx [c]), .str (tx [d])] σ H Q
theorem pg_str2 {es : List Expr} {k : Nat} {t : TGs} (hc : X.calm = true) (h : PGs X es t)
    (hn : (assignEach es X.env).length = 2 := by rfl) (hst : (assignEach es X.env).findIdx? (·.1) = none := by rfl) : PG X (.Tuple es k pos) (gStr2 t) := by
  refine ⟨fun pins s σ H v u Q I r hw => ?_⟩
  obtain ⟨c, d, e1, hc1, hd1, hw⟩ := hw
  subst e1
  obtain ⟨tk, rfl⟩ := r
  rw [PyProof.Rows.assign_Tuple]
  refine wpAny_bind (wpAny_standAt ?_)
  unfold unpack
  rw [hn, hst]
  refine wpAny_bind (wpAny_holding (unpack_str2 (I.ok.hd hc) hc1 hd1 fun h' tk' t1 t2 hx => ?_))
  have I1 : Inv X pins σ H { s with heap := h', toks := tk' } := I.kept hx
  exact h.run pins _ σ H [V.str (tx [c]), V.str (tx [d])] _ Q I1 (.cons ⟨t1, rfl⟩ (.cons ⟨t2, rfl⟩ .nil)) hw
/-- a, b = a list or a tuple of two -/
def gSeqH (n : Nat) (t : TGs) : TG := fun v σ H Q => ∃ a xs, v = .ref a ∧ RowAt H a xs ∧ xs.length = n ∧ t xs σ H Q
theorem pg_seqH {es : List Expr} {k : Nat} {t : TGs} {n : Nat} (hc : X.calm = true) (h : PGs X es t)
    (hn : (assignEach es X.env).length = n := by rfl) (hst : (assignEach es X.env).findIdx? (·.1) = none := by rfl) : PG X (.Tuple es k pos) (gSeqH n t) :=
  ⟨fun pins s σ H v u Q I r hw => by
    obtain ⟨a, xs, e1, e2, e3, e4⟩ := hw
    rcases e2 with e2 | e2
    · exact (pg_unl hc h hn hst).run pins s σ H v u Q I r ⟨a, xs, e1, SqL.of e2, e3, e4⟩
    · exact (pg_tup hc h hn hst).run pins s σ H v u Q I r ⟨a, xs, e1, SqT.of e2, e3, e4⟩⟩
end
end AK
set_option Elab.async false
set_option linter.all false
set_option maxRecDepth 100000
set_option maxHeartbeats 4000000
namespace AK
open PySem PySem.Spec PyProof.Rows L2
/-- name = {..} on one line, the name a local -/
theorem ps_setDc {X : Cx} {i : Nat} {y : Str} {py : Pos} {kx vx tg iter : Expr} {ifs : List Expr} {scope : Scope} {own : List (Str × Nat)} {pos spos : Pos} {wi : TI} {g : TG} {tt : TT} {tk tv : TE} (hc : X.calm = true) (hN : X.N.Nodup) (hy : X.N[i]? = some y) (hyl : X.env.scope.names.lookup y = some .local)
    (hsw : swapsWith (.DictComp kx vx [⟨tg, iter, ifs, 0⟩] scope pos) (some (.Name y py)) spos.line X.env = pure true) (hi : PI X tg iter wi) (ok : BlkOk X.N X.env.scope scope own)
    (hg : ∀ (s : Shared) (H : Hp) (C : Addr) (cl : List (Str × Addr)) (fp : List Addr), PG (X.blk s H scope (compEnvC scope cl C X.env) fp) tg g) (ht : ∀ (s : Shared) (H : Hp) (C : Addr) (cl : List (Str × Addr)) (fp : List Addr), PTs (X.blk s H scope (compEnvC scope cl C X.env) fp) ifs tt)
    (hk : ∀ (s : Shared) (H : Hp) (C : Addr) (cl : List (Str × Addr)) (fp : List Addr), PE (X.blk s H scope (compEnvC scope cl C X.env) fp) kx tk)
    (he : ∀ (s : Shared) (H : Hp) (C : Addr) (cl : List (Str × Addr)) (fp : List Addr), PE (X.blk s H scope (compEnvC scope cl C X.env) fp) vx tv) (hs : ∀ x, foldedSetIterable iter X.env x = pure x := by intro _; rfl) :
    PS X (.Assign [.Name y py] (.DictComp kx vx [⟨tg, iter, ifs, 0⟩] scope pos) spos) (tAsg (tDc wi g tt tk tv (own.map (·.2))) (gName i)) := by
  refine ⟨fun pins s σ H D I h => ?_⟩
  rw [exec_Assign_Name_used _ _ _ _ hsw]
  refine wpAny_bind (wpAny_standAt (wpAny_bind ?_))
  show wpAny _ X.A (do let _ ← comprehension (.DictComp kx vx [⟨tg, iter, ifs, 0⟩] scope pos) scope X.env (firstIterPos [⟨tg, iter, ifs, 0⟩] pos) newDict false (eval iter X.env) (some (assign (.Name y py) X.env))) _ _ s
  have h : tDc wi g tt tk tv (own.map (·.2)) σ H (fun x H1 => gName i x σ H1 D.nx) := h
  refine wpAny_bind (thn (dc_core (Qf := fun _ s' => SP X pins D .next s') hc hN I hi ok hg ht hk he hs h fun L C s' m H' I' q hn f => ?_) fun _ s' hq => wpAny_pure (wpAny_pure hq))
  show wpAny _ _ (assign (.Name y py) X.env (.ref L)) _ _ _
  refine wpAny_assign_Name (store_ok2 (v := V.ref L) I' hN hy (.inl hyl) rfl (fun s2 I2 ⟨a, sb, ha⟩ => ?_) (.inr hyl))
  obtain ⟨f0, f1, f2, f3, f4, f5⟩ := f
  have haC : C ≠ a := by
    rcases ha with z | z
    · rw [z]; exact f1
    · exact fun e => f4 y a z e.symm
  refine ⟨m, hn.sameBut sb haC, fun h3 sb3 => ?_⟩
  exact ⟨_, H', I2.turned (t' := s2.toks) (fun b o hb e => (sb3.2 b hb).trans e) f0 f1 f3 f4 f5, q⟩
theorem sw_trueD {kx vx : Expr} {gs : List Comprehension} {scope : Scope} {pos py : Pos} {y : Str} {l : Nat} {env : Env} (hk : env.scope.kind = .function) (hy : env.scope.names.lookup y = some .local) (hl : (py.line == pos.line) = true)
    (ha : (scope.names.any fun (n, k) => n == y && (k == .local || k == .cell)) = false) : swapsWith (.DictComp kx vx gs scope pos) (some (.Name y py)) l env = pure true := by
  have ky : env.kindOf y = some .local := hy
  have hb : env.blockKind = .function := by unfold Env.blockKind; rw [hk]; rfl
  unfold swapsWith
  simp only [hb, ky, ha, Expr.pos, hl]
  rfl
section
variable {g : TG} {σ : L2.St} {H : Hp} {tt : TT} {tk tv : TE} {vs : List Nat} {Q : VK}
theorem dcStr {x : Str} (Pv : Nat → Addr → Hp → Prop) (h0 : ∀ D, H D = none → Pv 0 D (upd H D (.dK [])))
    (hs : ∀ i c D H', H D = none → (lt x)[i]? = some c → Pv i D H' → g (.str (tx [c])) (wipe σ vs) H' fun σ2 H2 => wipe σ2 vs = wipe σ vs ∧ tt σ2 H2 fun b H3 => if b = true then tk σ2 H3 fun y H4 => tv σ2 H4 fun z H5 => ∃ kvs k, y = kV k ∧ H5 D = some (.dK kvs) ∧ kvs.length < sizeLine ∧ Pv (i + 1) D (upd H5 D (.dK (putK kvs k z))) else Pv (i + 1) D H3)
    (hd : ∀ D H', H D = none → Pv (lt x).length D H' → Q (.ref D) H') : contD g tt tk tv vs σ Q (Its x) H := by
  intro D hD
  have hz : (lt x).length = x.cps.size := Array.length_toList ..
  refine ⟨fun i m H' => m = x.cps.size - i ∧ i ≤ x.cps.size ∧ Pv i D H', ⟨x.cps.size, by simp, Nat.zero_le _, h0 D hD⟩, ?_⟩
  rintro i m H' ⟨rfl, hi, p⟩
  by_cases hlt : i < x.cps.size
  · refine .inr ⟨hlt, fun H' => Pv (i + 1) D H', fun H' p' => ⟨x.cps.size - (i + 1), by omega, rfl, hlt, p'⟩, fun y H2 hy => ?_⟩
    obtain ⟨rfl, c, hc, rfl⟩ := hy
    exact hs i c D _ hD (by show x.cps.toList[i]? = some c; rw [Array.getElem?_toList]; exact hc) p
  · have e : i = x.cps.size := by omega
    subst e
    exact .inl ⟨Nat.le_refl _, hd D H' hD (by rw [hz]; exact p)⟩
theorem dcItems {d : Addr} {o : Obj} {kvs : List (L2.Key × V)} (Pv : Nat → Addr → Hp → Prop) (h0 : ∀ D, H D = none → Pv 0 D (upd H D (.dK []))) (hk : ∀ i D H', H D = none → Pv i D H' → H' d = some (.frz o (.dK kvs)))
    (hs : ∀ i k x t D H', H D = none → kvs[i]? = some (k, x) → Pv i D H' → H' t = none → g (.ref t) (wipe σ vs) (upd H' t (.tup [kV k, x])) fun σ2 H2 => wipe σ2 vs = wipe σ vs ∧ tt σ2 H2 fun b H3 => if b = true then tk σ2 H3 fun y H4 => tv σ2 H4 fun z H5 => ∃ kvs k, y = kV k ∧ H5 D = some (.dK kvs) ∧ kvs.length < sizeLine ∧ Pv (i + 1) D (upd H5 D (.dK (putK kvs k z))) else Pv (i + 1) D H3)
    (hd : ∀ D H', H D = none → Pv kvs.length D H' → Q (.ref D) H') : contD g tt tk tv vs σ Q (Iti d o kvs) H := by
  intro D hD
  refine ⟨fun i m H' => m = kvs.length - i ∧ i ≤ kvs.length ∧ Pv i D H', ⟨kvs.length, by simp, Nat.zero_le _, h0 D hD⟩, ?_⟩
  rintro i m H' ⟨rfl, hi, p⟩
  have hfz := hk i D H' hD p
  by_cases hlt : i < kvs.length
  · refine .inr ⟨⟨hfz, hlt⟩, fun H' => Pv (i + 1) D H', fun H' p' => ⟨kvs.length - (i + 1), by omega, rfl, hlt, p'⟩, fun y H2 hy => ?_⟩
    obtain ⟨t, k, x, hx, rfl, ht, rfl⟩ := hy
    exact hs i k x t D H' hD hx p ht
  · have e : i = kvs.length := by omega
    subst e
    exact .inl ⟨⟨hfz, Nat.le_refl _⟩, hd D H' hD p⟩
end
/-! ### a dict by the nodes' letters -/
/-- its entries: the letters from the j-th on -/
def hadF : Nat → List V → List (L2.Key × V)
  | _, [] => []
  | j, v :: r => (.inr (tx [65 + j]), v) :: hadF (j + 1) r
theorem hadF_app : ∀ (l m : List V) (j : Nat), hadF j (l ++ m) = hadF j l ++ hadF (j + l.length) m
  | [], m, j => rfl
  | v :: l, m, j => by
    rw [List.cons_append, hadF, hadF, hadF_app l m (j + 1), List.cons_append, List.length_cons, show j + 1 + l.length = j + (l.length + 1) from by omega]
theorem hadF_len : ∀ (l : List V) (j : Nat), (hadF j l).length = l.length
  | [], _ => rfl
  | v :: l, j => by rw [hadF, List.length_cons, List.length_cons, hadF_len l]
theorem hadF_at : ∀ (l : List V) (j i : Nat), (hadF j l)[i]? = (l[i]?).map fun v => ((.inr (tx [65 + (j + i)]) : L2.Key), v)
  | [], _, _ => rfl
  | v :: l, j, 0 => rfl
  | v :: l, j, i + 1 => by
    rw [hadF, List.getElem?_cons_succ, List.getElem?_cons_succ, hadF_at l (j + 1) i, show j + 1 + i = j + (i + 1) from by omega]
theorem key_ne {a b : Nat} (h : a ≠ b) : ¬ (.inr (tx [65 + a]) : L2.Key) = .inr (tx [65 + b]) := fun z => h (by
  have := (List.cons.inj (tx_inj (Sum.inr.inj z))).1
  omega)
theorem hadF_val : ∀ (l : List V) (j i : Nat), valV (hadF j l) (.inr (tx [65 + (j + i)])) = l[i]?
  | [], _, _ => rfl
  | v :: l, j, 0 => by rw [Nat.add_zero, hadF, valV_pos rfl]; rfl
  | v :: l, j, i + 1 => by
    rw [hadF, valV_neg (key_ne (by omega)), List.getElem?_cons_succ, show j + (i + 1) = j + 1 + i from by omega]
    exact hadF_val l (j + 1) i
theorem hadF_put (l : List V) (v : V) : putK (hadF 0 l) (.inr (tx [65 + l.length])) v = hadF 0 (l ++ [v]) := by
  have z := hadF_val l 0 l.length
  rw [Nat.zero_add, List.getElem?_eq_none (Nat.le_refl _)] at z
  rw [putK_new v z, hadF_app, Nat.zero_add]
  rfl
/-- what the nodes have: a dict of lists of numbers -/
structure HadAt (H : Hp) (h : Addr) (had : List (List Nat)) : Prop where
  ex : ∃ as : List Addr, H h = some (.dK (hadF 0 (as.map V.ref))) ∧ as.length = had.length ∧ as.Nodup ∧ ∀ (i : Nat) (r : List Nat) (t : Addr), had[i]? = some r → as[i]? = some t → H t = some (.lst (ni r))
theorem HadAt.same {H H' : Hp} {h : Addr} {had : List (List Nat)} (x : HadAt H h had) (s : Same H H') : HadAt H' h had := by
  obtain ⟨as, h1, h2, h3, h4⟩ := x.ex
  exact ⟨as, s _ _ h1, h2, h3, fun i r t e1 e2 => s _ _ (h4 i r t e1 e2)⟩
/-- a node's list -/
theorem HadAt.get {H : Hp} {h : Addr} {had : List (List Nat)} (x : HadAt H h had) {i : Nat} {r : List Nat} (hr : had[i]? = some r) : ∃ t, H t = some (.lst (ni r)) ∧ ∀ H', Same H H' → DGet H' h (.str (tx [65 + i])) (some (.ref t)) := by
  obtain ⟨as, h1, h2, h3, h4⟩ := x.ex
  have hi : i < as.length := by
    rw [h2]
    exact (List.getElem?_eq_some_iff.mp hr).1
  have ha : as[i]? = some as[i] := List.getElem?_eq_getElem hi
  refine ⟨as[i], h4 i r _ hr ha, fun H' s => .inl ⟨_, .inr (tx [65 + i]), .inl (s _ _ h1), rfl, ?_⟩⟩
  have z := hadF_val (as.map V.ref) 0 i
  rw [Nat.zero_add] at z
  rw [z, List.getElem?_map, ha]
  rfl
/-- a number more at a node -/
theorem HadAt.put {H : Hp} {h : Addr} {had : List (List Nat)} (x : HadAt H h had) {i : Nat} {r : List Nat} (hr : had[i]? = some r) : ∃ t, H t = some (.lst (ni r)) ∧ DGet H h (.str (tx [65 + i])) (some (.ref t)) ∧ ∀ m : Nat, HadAt (upd H t (.lst (ni r ++ [V.int (m : Int)]))) h (had.set i (r ++ [m])) := by
  obtain ⟨as, h1, h2, h3, h4⟩ := x.ex
  have hi : i < as.length := by
    rw [h2]
    exact (List.getElem?_eq_some_iff.mp hr).1
  have ha : as[i]? = some as[i] := List.getElem?_eq_getElem hi
  have ht := h4 i r _ hr ha
  refine ⟨as[i], ht, .inl ⟨_, .inr (tx [65 + i]), .inl h1, rfl, ?_⟩, fun m => ⟨as, ?_, by rw [List.length_set, h2], h3, fun j q t e1 e2 => ?_⟩⟩
  · have z := hadF_val (as.map V.ref) 0 i
    rw [Nat.zero_add] at z
    rw [z, List.getElem?_map, ha]
    rfl
  · rw [upd_ne (fun z => by rw [z, ht] at h1; cases h1)]
    exact h1
  · by_cases hij : i = j
    · subst hij
      rw [ha] at e2
      cases Option.some.inj e2
      rw [List.getElem?_set_self (by omega)] at e1
      cases Option.some.inj e1
      rw [upd_same, ni_snoc]
    · rw [List.getElem?_set_ne hij] at e1
      have : t ≠ as[i] := fun z => by
        subst z
        have e3 := ha.trans e2.symm
        exact hij ((List.getElem?_inj hi h3).mp e3)
      rw [upd_ne this]
      exact h4 j q t e1 e2
end AK
set_option Elab.async false
set_option linter.all false
set_option maxRecDepth 100000
set_option maxHeartbeats 4000000
namespace AK
open PySem PySem.Spec PyProof.Rows L2
/-! ### data that the heap holds itself -/
mutual
def DH (H : Hp) : PyData → V → Prop
  | .int i, v => v = .int i
  | .str s, v => v = .str s
  | .bool b, v => v = .bl b
  | .none, v => v = .non
  | .tuple ds, v => ∃ p xs, v = .ref p ∧ H p = some (.tup xs) ∧ DHs H ds xs
  | .list ds, v => ∃ p xs, v = .ref p ∧ H p = some (.lst xs) ∧ DHs H ds xs
  | _, _ => False
def DHs (H : Hp) : List PyData → List V → Prop
  | [], xs => xs = []
  | d :: ds, xs => ∃ x r, xs = x :: r ∧ DH H d x ∧ DHs H ds r
end
mutual
/-- no list within -/
def flatD : PyData → Bool
  | .tuple ds => flatDs ds
  | .list _ => false
  | .dict _ => false
  | _ => true
def flatDs : List PyData → Bool
  | [] => true
  | d :: ds => flatD d && flatDs ds
end
mutual
theorem DH.imp {H H' : Hp} (s : Same H H') : ∀ (d : PyData) (v : V), DH H d v → DH H' d v
  | .int _, _, h => h
  | .str _, _, h => h
  | .bool _, _, h => h
  | .none, _, h => h
  | .tuple ds, v, h => by
    unfold DH at h ⊢
    obtain ⟨p, xs, e, hp, hs⟩ := h
    exact ⟨p, xs, e, s _ _ hp, DHs.imp s ds xs hs⟩
  | .list ds, v, h => by
    unfold DH at h ⊢
    obtain ⟨p, xs, e, hp, hs⟩ := h
    exact ⟨p, xs, e, s _ _ hp, DHs.imp s ds xs hs⟩
  | .dict _, _, h => by unfold DH at h; exact h.elim
theorem DHs.imp {H H' : Hp} (s : Same H H') : ∀ (ds : List PyData) (xs : List V), DHs H ds xs → DHs H' ds xs
  | [], _, h => h
  | d :: ds, xs, h => by
    unfold DHs at h ⊢
    obtain ⟨x, r, e, h1, h2⟩ := h
    exact ⟨x, r, e, DH.imp s d x h1, DHs.imp s ds r h2⟩
end
mutual
theorem DH.dp {K : PySem.W.Frag} {H : Hp} : ∀ (d : PyData) (v : V), DH H d v → Dp K H v d
  | .int _, _, h => by unfold DH at h; subst h; exact .int _
  | .str _, _, h => by unfold DH at h; subst h; exact .str _
  | .bool _, _, h => by unfold DH at h; subst h; exact .bl _
  | .none, _, h => by unfold DH at h; subst h; exact .non
  | .tuple ds, v, h => by
    unfold DH at h
    obtain ⟨p, xs, rfl, hp, hs⟩ := h
    exact .tup (SqT.of hp) (DHs.dp ds xs hs)
  | .list ds, v, h => by
    unfold DH at h
    obtain ⟨p, xs, rfl, hp, hs⟩ := h
    exact .lst (SqL.of hp) (DHs.dp ds xs hs)
  | .dict _, _, h => by unfold DH at h; exact h.elim
theorem DHs.dp {K : PySem.W.Frag} {H : Hp} : ∀ (ds : List PyData) (xs : List V), DHs H ds xs → DpAll K H xs ds
  | [], _, h => by unfold DHs at h; subst h; exact .nil
  | d :: ds, xs, h => by
    unfold DHs at h
    obtain ⟨x, r, rfl, h1, h2⟩ := h
    exact .cons (DH.dp d x h1) (DHs.dp ds r h2)
end
mutual
/-- what holds no list is not touched by what is written at an address of no tuple -/
theorem DH.wr {H : Hp} {p : Addr} {o : HO} (hp : ∀ xs, H p ≠ some (.tup xs)) : ∀ (d : PyData) (v : V), flatD d = true → DH H d v → DH (upd H p o) d v
  | .int _, _, _, h => h
  | .str _, _, _, h => h
  | .bool _, _, _, h => h
  | .none, _, _, h => h
  | .tuple ds, v, f, h => by
    unfold DH at h ⊢
    obtain ⟨q, xs, e, hq, hs⟩ := h
    exact ⟨q, xs, e, by rw [upd_ne fun z => hp xs (by rw [← z]; exact hq)]; exact hq, DHs.wr hp ds xs (by unfold flatD at f; exact f) hs⟩
  | .list _, _, f, _ => by unfold flatD at f; cases f
  | .dict _, _, f, _ => by unfold flatD at f; cases f
theorem DHs.wr {H : Hp} {p : Addr} {o : HO} (hp : ∀ xs, H p ≠ some (.tup xs)) : ∀ (ds : List PyData) (xs : List V), flatDs ds = true → DHs H ds xs → DHs (upd H p o) ds xs
  | [], _, _, h => h
  | d :: ds, xs, f, h => by
    unfold DHs at h ⊢
    unfold flatDs at f
    rw [Bool.and_eq_true] at f
    obtain ⟨x, r, e, h1, h2⟩ := h
    exact ⟨x, r, e, DH.wr hp d x f.1 h1, DHs.wr hp ds r f.2 h2⟩
end
theorem DHs.len {H : Hp} : ∀ {ds : List PyData} {xs : List V}, DHs H ds xs → xs.length = ds.length
  | [], _, h => by unfold DHs at h; subst h; rfl
  | d :: ds, xs, h => by
    unfold DHs at h
    obtain ⟨x, r, rfl, _, h2⟩ := h
    rw [List.length_cons, List.length_cons, DHs.len h2]
theorem DHs.at {H : Hp} : ∀ {ds : List PyData} {xs : List V} {i : Nat} {x : V}, DHs H ds xs → xs[i]? = some x → ∃ d, ds[i]? = some d ∧ DH H d x
  | [], _, i, x, h, e => by
    unfold DHs at h
    subst h
    rw [List.getElem?_nil] at e
    cases e
  | d :: ds, xs, i, x, h, e => by
    unfold DHs at h
    obtain ⟨y, r, rfl, h1, h2⟩ := h
    match i with
    | 0 =>
      cases e
      exact ⟨d, rfl, h1⟩
    | i + 1 =>
      obtain ⟨d', h3⟩ := DHs.at h2 e
      exact ⟨d', h3⟩
theorem DHs.of {H : Hp} : ∀ {ds : List PyData} {xs : List V} {i : Nat} {d : PyData}, DHs H ds xs → ds[i]? = some d → ∃ x, xs[i]? = some x ∧ DH H d x
  | [], _, i, x, h, e => by
    rw [List.getElem?_nil] at e
    cases e
  | d :: ds, xs, i, x, h, e => by
    unfold DHs at h
    obtain ⟨y, r, rfl, h1, h2⟩ := h
    match i with
    | 0 =>
      cases e
      exact ⟨y, rfl, h1⟩
    | i + 1 =>
      obtain ⟨d', h3⟩ := DHs.of h2 e
      exact ⟨d', h3⟩
theorem DHs.app {H : Hp} : ∀ {ds es : List PyData} {xs ys : List V}, DHs H ds xs → DHs H es ys → DHs H (ds ++ es) (xs ++ ys)
  | [], _, _, _, h, k => by
    unfold DHs at h
    subst h
    exact k
  | d :: ds, es, xs, ys, h, k => by
    unfold DHs at h
    obtain ⟨x, r, rfl, h1, h2⟩ := h
    show DHs H (d :: (ds ++ es)) (x :: (r ++ ys))
    unfold DHs
    exact ⟨x, _, rfl, h1, DHs.app h2 k⟩
theorem DHs.one {H : Hp} {d : PyData} {x : V} (h : DH H d x) : DHs H [d] [x] := by
  unfold DHs
  exact ⟨x, [], rfl, h, by unfold DHs; rfl⟩
theorem DHs.nil {H : Hp} : DHs H [] [] := by unfold DHs; rfl
theorem DHs.two {H : Hp} {d e : PyData} {x y : V} (h : DH H d x) (k : DH H e y) : DHs H [d, e] [x, y] := DHs.app (DHs.one h) (DHs.one k)
theorem DHs.three {H : Hp} {d e f : PyData} {x y z : V} (h : DH H d x) (k : DH H e y) (l : DH H f z) : DHs H [d, e, f] [x, y, z] := DHs.app (DHs.one h) (DHs.two k l)
theorem DHs.take {H : Hp} : ∀ {ds : List PyData} {xs : List V} (n : Nat), DHs H ds xs → DHs H (ds.take n) (xs.take n)
  | _, _, 0, _ => by rw [List.take_zero, List.take_zero]; exact DHs.nil
  | [], _, n + 1, h => by
    unfold DHs at h
    subst h
    exact DHs.nil
  | d :: ds, xs, n + 1, h => by
    unfold DHs at h
    obtain ⟨x, r, rfl, h1, h2⟩ := h
    rw [List.take_succ_cons, List.take_succ_cons]
    unfold DHs
    exact ⟨x, _, rfl, h1, DHs.take n h2⟩
theorem DHs.drop {H : Hp} : ∀ {ds : List PyData} {xs : List V} (n : Nat), DHs H ds xs → DHs H (ds.drop n) (xs.drop n)
  | _, _, 0, h => h
  | [], _, n + 1, h => by
    unfold DHs at h
    subst h
    exact DHs.nil
  | d :: ds, xs, n + 1, h => by
    unfold DHs at h
    obtain ⟨x, r, rfl, h1, h2⟩ := h
    exact DHs.drop n h2
theorem flatDs_map {α : Type} (f : α → PyData) (h : ∀ a, flatD (f a) = true) : ∀ l : List α, flatDs (l.map f) = true
  | [] => by rw [List.map_nil, flatDs]
  | a :: l => by rw [List.map_cons, flatDs, h a, flatDs_map f h l]; rfl
/-- a list of data -/
def LstD (H : Hp) (D : Addr) (ds : List PyData) : Prop := ∃ xs, H D = some (.lst xs) ∧ DHs H ds xs
theorem LstD.same {H H' : Hp} {D : Addr} {ds : List PyData} (h : LstD H D ds) (s : Same H H') : LstD H' D ds := by
  obtain ⟨xs, e, k⟩ := h
  exact ⟨xs, s _ _ e, DHs.imp s _ _ k⟩
theorem LstD.nil {H : Hp} {D : Addr} (e : H D = some (.lst [])) : LstD H D [] := ⟨[], e, DHs.nil⟩
theorem LstD.dh {H : Hp} {D : Addr} {ds : List PyData} : LstD H D ds ↔ DH H (.list ds) (.ref D) := by
  unfold DH LstD
  constructor
  · rintro ⟨xs, e, k⟩
    exact ⟨D, xs, rfl, e, k⟩
  · rintro ⟨p, xs, e, h1, h2⟩
    cases e
    exact ⟨xs, h1, h2⟩
theorem LstD.add {H : Hp} {D : Addr} {ds : List PyData} {d : PyData} {x : V} {xs : List V} (h : LstD H D ds) (e : H D = some (.lst xs)) (f : flatDs ds = true) (fd : flatD d = true) (k : DH H d x) : LstD (upd H D (.lst (xs ++ [x]))) D (ds ++ [d]) := by
  obtain ⟨ys, e2, h2⟩ := h
  rw [e] at e2
  cases e2
  have hp : ∀ zs, H D ≠ some (.tup zs) := fun zs z => by rw [e] at z; cases z
  exact ⟨_, upd_same, DHs.app (DHs.wr hp _ _ f h2) (DHs.one (DH.wr hp _ _ fd k))⟩
end AK
set_option Elab.async false
set_option linter.all false
set_option maxRecDepth 100000
set_option maxHeartbeats 4000000
namespace AK
open PySem PySem.Spec PyProof.Rows L2
/-! ### dicts whose keys are nested tuples (of whole numbers, truth values, texts, None) -/
mutual
/-- the value v is this key; its tuples are held by the heap itself -/
def NK (H : Hp) : NestedKey → V → Prop
  | .none, v => v = .non
  | .num i, v => v = .int i ∨ ∃ b : Bool, v = .bl b ∧ i = (if b = true then 1 else 0)
  | .text x, v => v = .str x
  | .tup ks, v => ∃ p xs, v = .ref p ∧ H p = some (.tup xs) ∧ NKs H ks xs
def NKs (H : Hp) : List NestedKey → List V → Prop
  | [], xs => xs = []
  | k :: ks, xs => ∃ x r, xs = x :: r ∧ NK H k x ∧ NKs H ks r
end
mutual
theorem NK.kt {H H' : Hp} (kt : ∀ b ys, H b = some (.tup ys) → H' b = some (.tup ys)) : ∀ (k : NestedKey) (v : V), NK H k v → NK H' k v
  | .none, v, h => by unfold NK at h ⊢; exact h
  | .num _, v, h => by unfold NK at h ⊢; exact h
  | .text _, v, h => by unfold NK at h ⊢; exact h
  | .tup ks, v, h => by
    unfold NK at h ⊢
    obtain ⟨p, xs, e, hp, hs⟩ := h
    exact ⟨p, xs, e, kt _ _ hp, NKs.kt kt ks xs hs⟩
theorem NKs.kt {H H' : Hp} (kt : ∀ b ys, H b = some (.tup ys) → H' b = some (.tup ys)) : ∀ (ks : List NestedKey) (vs : List V), NKs H ks vs → NKs H' ks vs
  | [], vs, h => by unfold NKs at h ⊢; exact h
  | k :: ks, vs, h => by
    unfold NKs at h ⊢
    obtain ⟨x, r, e, h1, h2⟩ := h
    exact ⟨x, r, e, NK.kt kt k x h1, NKs.kt kt ks r h2⟩
end
mutual
theorem NK.is {P : Program} {w : World} {H : Hp} {h : Heap} (ok : HOk P w H h) : ∀ (k : NestedKey) (v : V) (u : Value), NK H k v → RelV v u → NestedIs h k u
  | .none, v, u, hk, r => by
    unfold NK at hk
    subst hk
    cases (show u = Value.none from r)
    exact .none
  | .num i, v, u, hk, r => by
    unfold NK at hk
    rcases hk with rfl | ⟨b, rfl, e⟩
    · obtain ⟨t, rfl⟩ := (show ∃ t, u = Value.int i t from r)
      exact .int _ _
    · cases (show u = Value.bool b from r)
      exact .bool e
  | .text x, v, u, hk, r => by
    unfold NK at hk
    subst hk
    obtain ⟨t, rfl⟩ := (show ∃ t, u = Value.str x t from r)
    exact .text _ _
  | .tup ks, v, u, hk, r => by
    unfold NK at hk
    obtain ⟨p, xs, rfl, hp, hs⟩ := hk
    cases (show u = Value.ref p from r)
    obtain ⟨_, its, r2, o, h1, h2, n, h3⟩ := (show ObjOk P w H h p (.tup xs) from ok p _ hp)
    exact .tup h1 h2 h3 (NKs.is ok ks xs its hs r2)
theorem NKs.is {P : Program} {w : World} {H : Hp} {h : Heap} (ok : HOk P w H h) : ∀ (ks : List NestedKey) (vs : List V) (us : List Value), NKs H ks vs → Vals vs us → NestedAll h ks us
  | [], vs, us, hk, r => by
    unfold NKs at hk
    subst hk
    cases r
    exact .nil
  | k :: ks, vs, us, hk, r => by
    unfold NKs at hk
    obtain ⟨x, q, rfl, h1, h2⟩ := hk
    cases r with
    | cons r1 r2 => exact .cons (NK.is ok k x _ h1 r1) (NKs.is ok ks q _ h2 r2)
end
abbrev NE := NestedKey × Addr × V
abbrev XP : List NE → List (NestedKey × Addr × Value) → Prop := Paired fun p q => p.1 = q.1 ∧ p.2.1 = q.2.1 ∧ RelV p.2.2 q.2.2
/-- the dict's object: its entries, with the addresses of their keys -/
def DN (P : Program) (w : World) (a : Addr) (xs : List NE) : HO := .ext fun h => xs.length ≤ sizeLine ∧ (a == sysModules) = false ∧
  ∃ ys, XP xs ys ∧ ∃ o es ep, h.get? a = some o ∧ o.ExactDict ∧ o.data = .dict es ep ∧ es.toList = ys.map (entryOfKey (nestedKind P w)) ∧ (ys.map (·.1)).Nodup
def valNE (xs : List NE) (k : NestedKey) : Option V := (xs.find? fun x => decide (x.1 = k)).map (·.2.2)
def putNE (xs : List NE) (k : NestedKey) (b : Addr) (v : V) : List NE :=
  if (xs.any fun x => decide (x.1 = k)) then xs.map (fun x => if x.1 = k then (x.1, x.2.1, v) else x) else xs ++ [(k, b, v)]
theorem XP.val {xs : List NE} {ys : List (NestedKey × Addr × Value)} (r : XP xs ys) (k : NestedKey) : RelO (valNE xs k) ((atKey ys k).map (·.2)) := by
  induction r with
  | nil => exact True.intro
  | @cons p q ps qs h t ih =>
    unfold valNE atKey
    rw [List.find?_cons, List.find?_cons]
    by_cases e : p.1 = k
    · rw [decide_eq_true e, decide_eq_true (h.1.symm.trans e)]
      exact h.2.2
    · rw [decide_eq_false e, decide_eq_false (fun z => e (h.1.trans z))]
      exact ih
theorem XP.any {xs : List NE} {ys : List (NestedKey × Addr × Value)} (r : XP xs ys) (k : NestedKey) : (xs.any fun x => decide (x.1 = k)) = (atKey ys k).isSome := by
  induction r with
  | nil => rfl
  | @cons p q ps qs h t ih =>
    unfold atKey
    rw [List.find?_cons, List.any_cons, ih]
    by_cases e : p.1 = k
    · rw [decide_eq_true e, decide_eq_true (h.1.symm.trans e)]
      rfl
    · rw [decide_eq_false e, decide_eq_false (fun z => e (h.1.trans z))]
      rfl
theorem XP.put {xs : List NE} {ys : List (NestedKey × Addr × Value)} (r : XP xs ys) (k : NestedKey) (b : Addr) {v : V} {u : Value} (rv : RelV v u) : XP (putNE xs k b v) (storedH ys k b u) := by
  unfold putNE storedH
  rw [r.any k]
  by_cases e : (atKey ys k).isSome = true
  · rw [if_pos e, if_pos e]
    clear e
    induction r with
    | nil => exact .nil
    | @cons p q ps qs h t ih =>
      rw [List.map_cons, List.map_cons]
      refine .cons ?_ ih
      unfold putAt
      by_cases e : p.1 = k
      · rw [if_pos e, if_pos (h.1.symm.trans e)]
        exact ⟨h.1, h.2.1, rv⟩
      · rw [if_neg e, if_neg (fun z => e (h.1.trans z))]
        exact h
  · rw [if_neg e, if_neg e]
    exact Paired.snoc r ⟨rfl, rfl, rv⟩
theorem putNE_len (xs : List NE) (k : NestedKey) (b : Addr) (v : V) : (putNE xs k b v).length ≤ xs.length + 1 := by
  unfold putNE
  split
  · rw [List.length_map]; omega
  · rw [List.length_append]; exact Nat.le_refl _
/-- at a stands a dict with these keys and values -/
structure NDict (P : Program) (w : World) (H : Hp) (a : Addr) (kvs : List (NestedKey × V)) : Prop where
  ex : ∃ xs : List NE, H a = some (DN P w a xs) ∧ (∀ x ∈ xs, NK H x.1 (.ref x.2.1) ∧ x.1.depth ≤ 8) ∧ kvs = xs.map fun x => (x.1, x.2.2)
theorem valNE_map (xs : List NE) (k : NestedKey) : valV (xs.map fun x => (x.1, x.2.2)) k = valNE xs k := by
  induction xs with
  | nil => rfl
  | cons x xs ih =>
    unfold valV valNE
    rw [List.map_cons, List.find?_cons, List.find?_cons]
    by_cases e : x.1 = k
    · rw [decide_eq_true e]; rfl
    · rw [decide_eq_false e]; exact ih
theorem putNE_map (xs : List NE) (k : NestedKey) (b : Addr) (v : V) : ((putNE xs k b v).map fun x => (x.1, x.2.2)) = putK (xs.map fun x => (x.1, x.2.2)) k v := by
  unfold putNE putK
  rw [List.any_map]
  show _ = if (xs.any fun x => decide (x.1 = k)) = true then _ else _
  split
  · rw [List.map_map, List.map_map]
    refine List.map_congr_left fun x _ => ?_
    show (fun x : NE => (x.1, x.2.2)) (if x.1 = k then (x.1, x.2.1, v) else x) = if x.1 = k then (x.1, v) else (x.1, x.2.2)
    by_cases e : x.1 = k
    · rw [if_pos e, if_pos e]
    · rw [if_neg e, if_neg e]
  · rw [List.map_append]
    rfl
theorem NDict.move {P : Program} {w : World} {H H' : Hp} {a : Addr} {kvs : List (NestedKey × V)} (x : NDict P w H a kvs) (ka : ∀ o, H a = some o → H' a = some o) (kt : ∀ b ys, H b = some (.tup ys) → H' b = some (.tup ys)) : NDict P w H' a kvs := by
  obtain ⟨xs, h1, h2, h3⟩ := x.ex
  exact ⟨xs, ka _ h1, fun y hy => ⟨NK.kt kt _ _ (h2 y hy).1, (h2 y hy).2⟩, h3⟩
theorem NDict.same {P : Program} {w : World} {H H' : Hp} {a : Addr} {kvs : List (NestedKey × V)} (x : NDict P w H a kvs) (s : Same H H') : NDict P w H' a kvs := x.move (fun _ e => s _ _ e) fun _ _ e => s _ _ e
theorem ndict_rd {P : Program} {w : World} {H : Hp} {h : Heap} {a : Addr} {xs : List NE} (ok : HOk P w H h) (e : H a = some (DN P w a xs)) (hk : ∀ x ∈ xs, NK H x.1 (.ref x.2.1) ∧ x.1.depth ≤ 8) :
    xs.length ≤ sizeLine ∧ (a == sysModules) = false ∧ ∃ ys, XP xs ys ∧ h.DictOfH (nestedKind P w) a ys := by
  obtain ⟨⟨z, y, ys, r, o, es, ep, h1, h2, h3, h4, h5⟩, _, _⟩ := (show ObjOk P w H h a (DN P w a xs) from ok a _ e)
  refine ⟨z, y, ys, r, o, es, ep, h1, h2, h3, h4, fun x hx => ?_, h5⟩
  have all : ∀ {l : List NE} {m : List (NestedKey × Addr × Value)}, XP l m → (∀ x ∈ l, NK H x.1 (.ref x.2.1) ∧ x.1.depth ≤ 8) → ∀ x ∈ m, (nestedKind P w).is h x.1 x.2.1 := by
    intro l m q
    induction q with
    | nil => intro _ x hx; exact nomatch hx
    | @cons p q ps qs hq t ih =>
      intro hl x hx
      rcases List.mem_cons.mp hx with e | hx
      · subst e
        obtain ⟨z1, z2⟩ := hl p List.mem_cons_self
        rw [hq.1, hq.2.1] at z1
        rw [hq.1] at z2
        exact ⟨NK.is ok _ _ _ z1 rfl, z2⟩
      · exact ih (fun y hy => hl y (List.mem_cons_of_mem _ hy)) x hx
  exact all r hk x hx
/-- y is the key k, and may be asked for -/
def IsK (H : Hp) (k : NestedKey) (y : V) (b : Addr) : Prop := y = .ref b ∧ NK H k y ∧ k.depth ≤ 8
section
variable {X : Cx} {pins : List (Addr × Obj)} {σ : L2.St} {H : Hp} {s : Shared} {a b : Addr} {y v d : V} {u r : Value} {A : Around} {E : Value → Shared → Prop} {kvs : List (NestedKey × V)} {k : NestedKey}
theorem n_is (I : Inv X pins σ H s) (hk : IsK H k y b) : (nestedKind X.prog X.w).is s.heap k b := by
  obtain ⟨rfl, h, z⟩ := hk
  exact ⟨NK.is I.hok _ _ _ h rfl, z⟩
theorem n_room (hu : A.units + 64 < cLine) : (nestedKind X.prog X.w).room A.in1 := by
  show A.in1.units + 8 < cLine
  have : A.in1.units ≤ A.units + 1 := by
    unfold Around.in1
    simp
  omega
theorem n_getItem {Q : Value → Shared → Prop} (hu : A.units + 64 < cLine) (I : Inv X pins σ H s) (g : NDict X.prog X.w H a kvs) (hk : IsK H k y b) (l : valV kvs k = some v) (ry : RelV y u) (h : ∀ w' s', Inv X pins σ H s' → RelV v w' → Q w' s') :
    wpAny (model X.prog X.w) A (getItem (.ref a) u) Q E s := by
  obtain ⟨xs, h1, h2, h3⟩ := g.ex
  obtain ⟨z, hd, ys, rel, dd⟩ := ndict_rd I.hok h1 h2
  have hk' := n_is I hk
  obtain ⟨rfl, _, _⟩ := hk
  cases (show u = Value.ref b from ry)
  rw [h3, valNE_map] at l
  obtain ⟨w', hw, rw'⟩ := RelO.some_of (v := v) (o := (atKey ys k).map (·.2)) (by rw [← l]; exact rel.val k)
  obtain ⟨p, hp, hp2⟩ := Option.map_eq_some_iff.mp hw
  refine wpAny_getItem_heap (n_room hu) hk' dd hp ?_
  rw [hp2]
  exact h w' _ (I.tok _) rw'
theorem n_in {Q : Value → Shared → Prop} (hu : A.units + 64 < cLine) (I : Inv X pins σ H s) (g : NDict X.prog X.w H a kvs) (hk : IsK H k y b) (ry : RelV y u) (h : ∀ s', Inv X pins σ H s' → Q (.bool (valV kvs k).isSome) s') :
    wpAny (model X.prog X.w) A (compareOp .In u (.ref a)) Q E s := by
  obtain ⟨xs, h1, h2, h3⟩ := g.ex
  obtain ⟨z, hd, ys, rel, dd⟩ := ndict_rd I.hok h1 h2
  have hk' := n_is I hk
  obtain ⟨rfl, _, _⟩ := hk
  cases (show u = Value.ref b from ry)
  refine wpAny_in_heap (n_room hu) hk' hd dd ?_
  have q := (rel.val k).isSome_eq
  rw [Option.isSome_map] at q
  rw [← q, ← valNE_map, ← h3]
  exact h _ (I.tok _)
theorem n_get2 {Q : Value → Shared → Prop} (hu : A.units + 64 < cLine) (I : Inv X pins σ H s) (g : NDict X.prog X.w H a kvs) (hk : IsK H k y b) (ry : RelV y u) (rd : RelV d r) (h : ∀ w' s', Inv X pins σ H s' → RelV ((valV kvs k).getD d) w' → Q w' s') :
    wpAny (model X.prog X.w) A (call (.builtin "dict.get") [.ref a, u, r]) Q E s := by
  obtain ⟨xs, h1, h2, h3⟩ := g.ex
  obtain ⟨z, hd, ys, rel, dd⟩ := ndict_rd I.hok h1 h2
  have hk' := n_is I hk
  obtain ⟨rfl, _, _⟩ := hk
  cases (show u = Value.ref b from ry)
  refine call_meetsIn PySem.F.slot_dict_get dd.typeIs PySem.F.entry_dict_get (PySem.F.args_dict_get_3 _ _ _) (meetsH_dict_get_default (nestedKind X.prog X.w) a b hd r) ⟨n_room hu, k, ys, hk', dd, h _ _ (I.tok _) ?_⟩
  rw [h3, valNE_map]
  exact (rel.val k).getD rd
theorem n_setItem {Q : Unit → Shared → Prop} (hu : A.units + 64 < cLine) (I : Inv X pins σ H s) (g : NDict X.prog X.w H a kvs) (hk : IsK H k y b) (hl : kvs.length < sizeLine) (ry : RelV y u) (rv : RelV v r)
    (h : ∀ H' s', Inv X pins σ H' s' → NDict X.prog X.w H' a (putK kvs k v) → (∀ c, c ≠ a → H' c = H c) → Q () s') :
    wpAny (model X.prog X.w) A (setItem (.ref a) u r) Q E s := by
  obtain ⟨xs, h1, h2, h3⟩ := g.ex
  obtain ⟨z, hd, ys, rel, dd⟩ := ndict_rd I.hok h1 h2
  have hk' := n_is I hk
  obtain ⟨rfl, hk1, hk2⟩ := hk
  cases (show u = Value.ref b from ry)
  have hz : ys.length ≤ sizeLine := by rw [← Paired.length rel]; exact z
  have lx : xs.length = kvs.length := by rw [h3, List.length_map]
  have hl : (putNE xs k b v).length ≤ sizeLine := by have := putNE_len xs k b v; omega
  refine wpAny_setItem_heap (hsz := hz) (n_room hu) hk' dd fun h' dd' hs => ?_
  obtain ⟨q, es, ep, hq, g2, g3, g4, _, g5⟩ := dd'
  have kt : ∀ c zs, H c = some (.tup zs) → upd H a (DN X.prog X.w a (putNE xs k b v)) c = some (.tup zs) := fun c zs ec => by
    rw [upd_ne (ne_of ec h1 (fun z => nomatch z))]
    exact ec
  refine h (upd H a (DN X.prog X.w a (putNE xs k b v))) _ (d_write I (by rw [h1]; exact True.intro) hs ⟨q, hq⟩ ⟨⟨hl, hd, _, rel.put k b rv, q, es, ep, hq, g2, g3, g4, g5⟩, ⟨q, hq⟩, ?_⟩) ⟨_, upd_same, fun x hx => ?_, ?_⟩ fun c hc => upd_ne hc
  · rintro m1 m2 ⟨z1, z2, zs, z3, o, es', ep', z4, z5, z6, z7, z8⟩ hm
    exact ⟨z1, z2, zs, z3, o, es', ep', hm _ z4, z5, z6, z7, z8⟩
  · have : x ∈ xs ∨ x = (k, b, v) ∨ ∃ y ∈ xs, x.1 = y.1 ∧ x.2.1 = y.2.1 := by
      unfold putNE at hx
      split at hx
      · obtain ⟨y, hy, e⟩ := List.mem_map.mp hx
        split at e
        · exact .inr (.inr ⟨y, hy, by rw [← e], by rw [← e]⟩)
        · exact .inl (e ▸ hy)
      · rcases List.mem_append.mp hx with e | e
        · exact .inl e
        · exact .inr (.inl (List.mem_singleton.mp e))
    rcases this with e | e | ⟨y, hy, e1, e2⟩
    · exact ⟨NK.kt kt _ _ (h2 x e).1, (h2 x e).2⟩
    · rw [e]
      exact ⟨NK.kt kt _ _ hk1, hk2⟩
    · rw [e1, e2]
      exact ⟨NK.kt kt _ _ (h2 y hy).1, (h2 y hy).2⟩
  · rw [h3, putNE_map]
end
/-! ### readings and rules -/
def IsN (P : Program) (w : World) (H : Hp) (a : Addr) : Prop := ∃ kvs, NDict P w H a kvs
/-- {} -/
def tNew (P : Program) (w : World) : TE := fun _ H Q => ∀ p, H p = none → ∀ H', NDict P w H' p [] → Same H H' → (∀ c, c ≠ p → H' c = H c) → Q (.ref p) H'
/-- d[y]; y in d; d.get(y, x); d[y] = v -/
def tNGet (P : Program) (w : World) (td ty : TE) : TE := fun σ H Q => td σ H fun x H1 => ty σ H1 fun y H2 => ∃ a kvs k b v, x = .ref a ∧ NDict P w H2 a kvs ∧ IsK H2 k y b ∧ valV kvs k = some v ∧ Q v H2
def tNIn (P : Program) (w : World) (ty td : TE) : TE := fun σ H Q => ty σ H fun y H1 => td σ H1 fun x H2 => ∃ a kvs k b, x = .ref a ∧ NDict P w H2 a kvs ∧ IsK H2 k y b ∧ Q (.bl (valV kvs k).isSome) H2
def tNGet2 (P : Program) (w : World) (td ty tx : TE) : TE := fun σ H Q => td σ H fun x H1 => ∃ a, x = .ref a ∧ IsN P w H1 a ∧ ty σ H1 fun y H2 => tx σ H2 fun z H3 => ∃ kvs k b, NDict P w H3 a kvs ∧ IsK H3 k y b ∧ Q ((valV kvs k).getD z) H3
def sNPut (P : Program) (w : World) (td ty tv : TE) : TS := fun D σ H => tv σ H fun v H1 => td σ H1 fun x H2 => ty σ H2 fun y H3 => ∃ a kvs k b, x = .ref a ∧ NDict P w H3 a kvs ∧ IsK H3 k y b ∧ kvs.length < sizeLine ∧
  ∀ H4, NDict P w H4 a (putK kvs k v) → (∀ c, c ≠ a → H4 c = H3 c) → D.nx σ H4
section
variable {X : Cx} {o i e f value : Expr} {pos pos' apos cpos : Pos} {td ty tx tv : TE}
theorem isN_at {pins : List (Addr × Obj)} {σ : L2.St} {H : Hp} {s : Shared} {a : Addr} (I : Inv X pins σ H s) (d : IsN X.prog X.w H a) :
    s.TypeIs (.ref a) "dict" ∧ (∀ b, Value.ref a = .ref b → ∃ ob, s.heap.get? b = some ob ∧ ob.dict = none) := by
  obtain ⟨kvs, g⟩ := d
  obtain ⟨xs, h1, h2, h3⟩ := g.ex
  obtain ⟨z, hd, ys, rel, dd⟩ := ndict_rd I.hok h1 h2
  refine ⟨dd.typeIs, fun b q => ?_⟩
  cases q
  obtain ⟨ob, _, _, h1, h2, _⟩ := dd
  exact ⟨ob, h1, h2.2.1⟩
theorem pe_nnew : PE X (.Dict [] [] pos) (tNew X.prog X.w) := ⟨fun pins s σ H Q I h => by
  have hn := I.hok.fresh (Nat.le_refl s.heap.objs.size)
  have sm : Same H (upd H s.heap.objs.size (DN X.prog X.w s.heap.objs.size [])) := fun b o e => by
    rw [upd_ne (ne_of_none e hn)]
    exact e
  refine wpAny_Dict_empty ⟨.ref s.heap.objs.size, _, I.laid (a := s.heap.objs.size) (o := DN X.prog X.w s.heap.objs.size []) (t' := s.toks) (fun _ _ q => Heap.get?_push_of_some _ q) (Nat.le_refl _) ?_, rfl, h _ hn _ ⟨[], upd_same, (fun _ hx => nomatch hx), rfl⟩ sm fun c hc => upd_ne hc⟩
  refine ⟨⟨Nat.zero_le _, beq_eq_false_iff_ne.mpr (Ne.symm (Nat.ne_of_lt I.big)), [], .nil, _, #[], 0, Heap.get?_push_size _ rfl, ⟨rfl, rfl, rfl⟩, rfl, rfl, List.nodup_nil⟩, ⟨_, Heap.get?_push_size _ rfl⟩, ?_⟩
  rintro m1 m2 ⟨z1, z2, zs, z3, o, es', ep', z4, z5, z6, z7, z8⟩ hm
  exact ⟨z1, z2, zs, z3, o, es', ep', hm _ z4, z5, z6, z7, z8⟩⟩
theorem pe_nget (hu : X.A.units + 64 < cLine) (ho : PE X o td) (hi : PE X i ty) (hs : NoSl i) : PE X (.Subscript o i pos) (tNGet X.prog X.w td ty) := by
  refine ⟨fun pins s σ H Q I h => ?_⟩
  refine subD_of PySem.F.slot_dict_getitem.lookup hs (thn (ho.run pins s σ H _ I h) fun u s1 ⟨x, H1, I1, rx, q1⟩ => thn (hi.run pins s1 σ H1 _ I1 q1) fun iv s2 ⟨y, H2, I2, ry, a, kvs, k, b, v, ex, g, hk, l, q2⟩ => ?_)
  subst ex
  obtain rfl : u = Value.ref a := rx
  exact ⟨(isN_at I2 ⟨_, g⟩).1, n_getItem hu I2 g hk l ry fun w' s3 I3 rw' => ⟨v, H2, I3, rw', q2⟩⟩
theorem pc_nin (hu : X.A.units + 64 < cLine) (hi : PE X i ty) (ho : PE X o td) : PC X .In i o (tNIn X.prog X.w ty td) := by
  refine ⟨fun pins s σ H Q I h => ?_⟩
  refine thn (hi.run pins s σ H _ I h) fun iv s1 ⟨y, H1, I1, ry, q1⟩ => thn (ho.run pins s1 σ H1 _ I1 q1) fun u s2 ⟨x, H2, I2, rx, a, kvs, k, b, ex, g, hk, q2⟩ => ?_
  subst ex
  obtain rfl : u = Value.ref a := rx
  exact n_in hu I2 g hk ry fun s3 I3 => ⟨.bl (valV kvs k).isSome, H2, I3, rfl, q2⟩
theorem pe_nget2 (hu : X.A.units + 64 < cLine) (ho : PE X o td) (he : PE X e ty) (hf : PE X f tx) (m : M2 X o "get" apos e f cpos) : PE X (.Call (.Attribute o "get" apos) [e, f] [] cpos) (tNGet2 X.prog X.w td ty tx) := by
  refine ⟨fun pins s σ H Q I h => ?_⟩
  refine wpAny_Call_method m.base m.few m.line PySem.F.plainAttrs_dict PySem.F.slot_dict_get PySem.F.type_dict_get (thn (ho.run pins s σ H _ I h) fun u s1 ⟨x, H1, I1, rx, a, ex, d, q1⟩ => ?_)
  subst ex
  obtain rfl : u = Value.ref a := rx
  obtain ⟨t1, t2⟩ := isN_at I1 d
  refine ⟨t1, t2, ?_⟩
  rw [m.trees]
  refine Calls.callWith_builtin rfl (Calls.evalArgs_plain (Calls.spliced_cons (thn (he.run pins s1 σ H1 _ I1 q1) fun iv s2 ⟨y, H2, I2, ry, q2⟩ =>
    Calls.spliced_cons (thn (hf.run pins s2 σ H2 _ I2 q2) fun fv s3 ⟨z, H3, I3, rz, kvs, k, b, g, hk, q3⟩ => Calls.spliced_nil ?_))))
  exact n_get2 hu I3 g hk ry rz fun w' s4 I4 rw' => ⟨_, H3, I4, rw', q3⟩
theorem ps_nput (hu : X.A.units + 64 < cLine) (ho : PE X o td) (hi : PE X i ty) (hv : PE X value tv) (hs : swapsWith value (some (.Subscript o i pos')) pos.line X.env = pure false) :
    PS X (.Assign [.Subscript o i pos'] value pos) (sNPut X.prog X.w td ty tv) := by
  refine ⟨fun pins s σ H D I h => ?_⟩
  refine wpAny_Assign_Subscript (thn (hv.run pins s σ H _ I h) fun r s1 ⟨v, H1, I1, rv, q1⟩ => thn (ho.run pins s1 σ H1 _ I1 q1) fun u s2 ⟨x, H2, I2, rx, q2⟩ => thn (hi.run pins s2 σ H2 _ I2 q2) fun iv s3 ⟨y, H3, I3, ry, a, kvs, k, b, ex, g, hk, hl, q3⟩ => ?_) hs
  subst ex
  obtain rfl : u = Value.ref a := rx
  exact n_setItem hu I3 g hk hl ry rv fun H4 s4 I4 g4 k4 => ⟨σ, H4, I4, q3 H4 g4 k4⟩
end
end AK
set_option Elab.async false
set_option linter.all false
set_option maxRecDepth 100000
set_option maxHeartbeats 4000000
namespace AK
open PySem PySem.Spec PyProof.Rows L2
/-! ### [f(x) for x in xs] where f may raise -/
/-- the frames over another ground -/
theorem frames_ground {G G' : Heap} {B B' : Heap} : ∀ (fr : List Env), G.FunFrames B fr → (∀ L, B.get? L = none → (∃ o, G.get? L = some o ∧ ∀ xs, o.data ≠ .fields xs) → B'.get? L = none ∧ ∃ o o', G.get? L = some o ∧ G'.get? L = some o' ∧ o'.data = o.data) → G'.FunFrames B' fr
  | [], _, _ => trivial
  | ev :: fr, ff, k => by
    obtain ⟨f1, ⟨L, o, f2, f3, f4, f5⟩, f6⟩ := ff
    obtain ⟨n', o1, o2, e1, e2, e3⟩ := k L f3 ⟨o, f4, f5⟩
    rw [f4] at e1
    cases e1
    exact ⟨f1, ⟨L, o2, f2, n', e2, fun xs => by rw [e3]; exact f5 xs⟩, frames_ground fr f6 k⟩
theorem note_like {x : Value} {ev fv : Env} (h : ev.frame = fv.frame) : noteFrame x ev = noteFrame x fv := by
  unfold noteFrame PySem.frameOf
  rw [h]
section
variable {X : Cx}
/-- the exception that a block's call let out goes on in the def around it -/
theorem blk_raise {s3 : Shared} {H3 : Hp} {scope : Scope} {ce : Env} {fp : List Addr} {E : XK} {pX : List (Addr × Obj)} {σX : L2.St} {HX : Hp} {sX : Shared} (hstk : X.stack = X.env :: X.outer) (hfrm : X.env.frame = some X.env.locals) (hce : ce.frame = X.env.frame)
    (tk : Takes X fun cls d _ H => E cls d H) (IX : Inv X pX σX HX sX) (hCl : ce.locals ≠ X.env.locals) (hCs : X.s_0.heap.objs.size ≤ ce.locals) (hCf : ce.locals ∉ frs X.stack) (hCc : ∀ x c, X.env.cells.lookup x = some c → c ≠ ce.locals) (hCp : ∀ q ∈ X.pn ++ pX, q.1 ≠ ce.locals)
    (back : ∀ {p2 : List (Addr × Obj)} {σ2 : L2.St} {H2 : Hp} {s2 : Shared}, Inv (X.blk s3 H3 scope ce fp) p2 σ2 H2 s2 → Inv X pX σX H2 s2) :
    Passes (L2.CX X.prog X.w) ((X.blk s3 H3 scope ce fp).wish (notedBy (model X.prog X.w) X.A ce fun e s' => CompFails (model X.prog X.w) X.A X.xe ce e s')) E := by
  intro p1 σ1 H1 s1 u s' I1 c
  have I1 := I1.unwish
  have c : L2.CX X.prog X.w X.stack H1 s1 E u s' := c
  have xx : XE (X.blk s3 H3 scope ce fp) (fun cls d _ H => E cls d H) u s' := XE.of_call I1 (fun _ _ _ z => z) c
  obtain ⟨a, B, sI, p2, σ2, H2, cls, d, rfl, I2, nb, up, sky, na, os, ag, hw⟩ := xx
  obtain ⟨a', B0, H0', cls0, d0, eu, ⟨_, _, _, oe0, vs0, T0, oT0, ts0, q1, _, q3, q4, _, _, q7, q8, q9⟩, _⟩ := c
  cases eu
  have nb : ∀ b o, sI.heap.get? b = some o → b ∉ frs X.stack → B.get? b = some o := nb
  have sky : Sky B X.stack a (Zc cls d) ce.locals s'.heap := sky
  have fl : HandSPX.FlyingZ B X.stack a (Zc cls d) s'.heap := by
    rcases sky with ⟨_, _, _, oe, vs, he, _, hd, h1⟩ | fl | ⟨_, _, _, oe, vs, T, oT, ts, he, _, hd, h1, _, _, hT, hdT, h3⟩
    · rw [q1] at he
      cases he
      rw [q3] at hd
      cases hd
      rw [q4] at h1
      cases h1
    · exact fl
    · rw [q1] at he
      cases he
      rw [q3] at hd
      cases hd
      rw [q4] at h1
      cases h1
      rw [q7] at hT
      cases hT
      rw [q8] at hdT
      cases hdT
      rw [q9] at h3
      cases h3
  have hfr : X.A.frames = some (X.env :: X.outer) := by rw [IX.ok.frames, hstk]
  rw [hstk] at fl
  show wpAny (model X.prog X.w) X.A (noteFrame (.ref a) ce) _ _ s'
  rw [note_like hce]
  refine HandSPX.looks_onZ Zc.steady hfr hfrm fl fun h1 held up1 => ?_
  have J1 : Inv (X.blk s3 H3 scope ce fp) p2 σ2 H2 { s' with heap := h1 } := I2.landed nb held.1 (up.trans up1) os ag
  obtain ⟨m, hm, _⟩ := J1.loc
  have hm : h1.Ns ce.locals m := hm
  refine ⟨m, hm, fun h' m' hm' sb => ?_⟩
  have sb2 : ∀ b, b ≠ ce.locals → h'.get? b = h1.get? b := sb.2
  obtain ⟨oC', esC, epC, eC', _⟩ := hm'
  have nfC : oC'.isFreed = false := (Heap.get?_some_iff.mp eC').2
  obtain ⟨mI, ⟨oI, _, _, eI, _⟩, _⟩ := I2.loc
  have eI : sI.heap.get? ce.locals = some oI := eI
  have eB : B.get? ce.locals = some oI := nb _ _ eI hCf
  have gS := Heap.get?_update_self (fun _ => oC') eI nfC
  have gB := Heap.get?_update_self (fun _ => oC') eB nfC
  have gSo : ∀ b, b ≠ ce.locals → (sI.heap.update ce.locals fun _ => oC').get? b = sI.heap.get? b := fun b hb => Heap.get?_update_other _ _ (Ne.symm hb)
  have gBo : ∀ b, b ≠ ce.locals → (B.update ce.locals fun _ => oC').get? b = B.get? b := fun b hb => Heap.get?_update_other _ _ (Ne.symm hb)
  obtain ⟨k1, k2, k3, oe, vs, T, oT, ts, he, hz, hd, h1', hnT, hTe, hT, hdT, h3'⟩ := held
  have aC : a ≠ ce.locals := fun z => by rw [z, eB] at k2; cases k2
  have TC : T ≠ ce.locals := fun z => by rw [z, eB] at hnT; cases hnT
  have IX2 : Inv X pX σX H2 sI := back I2
  have free2 : H2 ce.locals = none := I2.free
  have IX3 : Inv X pX σX H2 { sI with heap := sI.heap.update ce.locals fun _ => oC' } := IX2.turned (t' := sI.toks) (it := ce.locals) (fun b o hb e => (gSo b hb).trans e) free2 hCl (.inr hCs) hCc hCp
  have trB : HandSPX.TracedZ h' (B.update ce.locals fun _ => oC') a (Zc cls d) (rawInt X.env.locals) := ⟨oe, vs, T, oT, ts, (sb2 _ aC).trans he, hz, hd, h1', (gBo _ TC).trans hnT, hTe, (sb2 _ TC).trans hT, hdT, h3'⟩
  have stB : (B.update ce.locals fun _ => oC').StaysIn h' := fun b o e => by
    by_cases hb : b = ce.locals
    · rw [hb] at e ⊢
      rw [gB] at e
      cases e
      exact eC'
    · rw [gBo b hb] at e
      rw [sb2 b hb]
      exact k1 b o e
  have frB : h'.FunFrames (B.update ce.locals fun _ => oC') (X.env :: X.outer) := by
    refine frames_ground _ k3 fun L hn ⟨o, ho, hnf⟩ => ?_
    have hb : L ≠ ce.locals := fun z => by rw [z, eB] at hn; cases hn
    exact ⟨(gBo L hb).trans hn, o, o, ho, (sb2 L hb).trans ho, rfl⟩
  have upB : (sI.heap.update ce.locals fun _ => oC').UpToSlots h' := fun b o e hnf => by
    by_cases hb : b = ce.locals
    · rw [hb] at e ⊢
      rw [gS] at e
      cases e
      exact ⟨oC'.slots, eC'⟩
    · rw [gSo b hb] at e
      obtain ⟨sl, e2⟩ := (up.trans up1) b o e hnf
      exact ⟨sl, (sb2 b hb).trans e2⟩
  unfold PySem.passOn
  refine wpAny_bind (wpAny_field ((sb2 _ aC).trans he) hd h1' ?_)
  rw [if_neg (show ¬ ((Value.ref T == Value.none) = true) from by simp)]
  have last : wpAny (model X.prog X.w) X.A (setFlight (.ref a) ce.frame) (fun _ s4 => wpAny (model X.prog X.w) X.A (throw (.ref a) : Sem Value) (fun _ _ => False) X.xe s4) X.xe { s' with heap := h' } := by
    rw [hce, hfrm]
    refine HandSPX.setFlight_anyZ stB frB trB fun h5 g1 g2 g3 g4 => wpAny_throw (tk _ _ ?_)
    refine ⟨a, B.update ce.locals fun _ => oC', { sI with heap := sI.heap.update ce.locals fun _ => oC' }, pX, σX, H2, cls, d, rfl, IX3, fun b o e hb => ?_, upB.trans g4, .inr (.inr ⟨g1, (gBo _ aC).trans k2, by rw [hstk]; exact g2, g3⟩), na, os, ag, hw⟩
    by_cases hc : b = ce.locals
    · rw [hc] at e ⊢
      have e : (sI.heap.update ce.locals fun _ => oC').get? ce.locals = some o := e
      rw [gS] at e
      cases e
      exact gB
    · have e : (sI.heap.update ce.locals fun _ => oC').get? b = some o := e
      rw [gSo b hc] at e
      rw [gBo b hc]
      exact nb b o e hb
  first
    | exact wpAny_bind (wpAny_pure (wpAny_bind last))
    | exact wpAny_bind last
end
end AK
set_option Elab.async false
set_option linter.all false
set_option maxRecDepth 100000
set_option maxHeartbeats 4000000
namespace AK
open PySem PySem.Spec PyProof.Rows L2
section
variable {X : Cx}
/-- [elt for tg in iter], the element a call that may raise -/
theorem pe_lcE {E : XK} {elt tg iter : Expr} {scope : Scope} {own : List (Str × Nat)} {pos : Pos} {wi : TI} {g : TG} {te : TE} (hstk : X.stack = X.env :: X.outer) (hfrm : X.env.frame = some X.env.locals) (tk : Takes X fun cls d _ H => E cls d H)
    (calm : X.calm = true) (nod : X.N.Nodup) (hi : PI X tg iter wi) (ok : BlkOk X.N X.env.scope scope own)
    (pgs : ∀ (t : Shared) (G : Hp) (C : Addr) (l : List (Str × Addr)) (fp : List Addr), PG (X.blk t G scope (compEnvC scope l C X.env) fp) tg g)
    (pes : ∀ (t : Shared) (G : Hp) (C : Addr) (l : List (Str × Addr)) (fp : List Addr) (xe : Value → Shared → Prop), Passes (L2.CX X.prog X.w) ((X.blk t G scope (compEnvC scope l C X.env) fp).wish xe) E → PE ((X.blk t G scope (compEnvC scope l C X.env) fp).wish xe) elt te)
    (hs : ∀ x, foldedSetIterable iter X.env x = pure x := by intro _; rfl) : PE X (.ListComp elt [⟨tg, iter, [], 0⟩] scope pos) (tLc wi g tYes te (own.map (·.2))) := by
  refine ⟨fun pins s σ H Q I hw => ?_⟩
  have lookF : ∀ y ∈ scope.names, y.2 = .free → ∃ c, X.env.cells.lookup y.1 = some c := fun y hy e =>
    (ok.free y hy e).elim (fun z => I.ok.has _ (.inl z)) fun z => I.ok.has _ (.inr z)
  rw [eval_ListComp]
  refine comprehension_at rfl hs (closure_ok lookF) ok.kind (fun y hy e => by rw [ok.uniq y hy, e]) (thn (hi.run pins s σ H _ I hw) fun xv s1 hx => thn hx fun itv s2 h2 => ?_)
  obtain ⟨it, fp, tn, J, H2, rfl, I2, T, st2, f2, q⟩ := h2
  refine wpAny_newObj_type (newEnv_comp ?_) (by show 0 ≤ sizeLine; decide)
  obtain ⟨W, ⟨m0, w0⟩, turn⟩ := q s2.heap.objs.size (I2.hok.fresh (Nat.le_refl _))
  generalize hD : s2.heap.objs.size = D at w0 turn ⊢
  generalize hs3 : ({ s2 with heap := s2.heap.push { cls := .type "list", data := .seq ([] : List Value).toArray } } : Shared) = s3
  have e3 : s3.heap = s2.heap.push { cls := .type "list", data := .seq ([] : List Value).toArray } := by rw [← hs3]
  have I3 : Inv X pins σ (upd H2 D (.lst [])) s3 := by
    rw [← hs3]
    refine I2.laid (t' := s2.toks) (fun b o e => Heap.get?_push_of_some _ e) (Nat.le_of_eq hD) ⟨Nat.zero_le _, [], 0, .nil, ?_⟩
    rw [← hD]
    exact Heap.get?_push_size _ rfl
  have older : ∀ b ∈ fp, b < s2.heap.objs.size := fun b hb => (T.obj _ _ st2 b hb).elim fun o z => Heap.lt_size z.1
  have f3 : ∀ b ∈ fp, FpOk X pins (upd H2 D (.lst [])) b ∧ b < s3.heap.objs.size := fun b hb => by
    refine ⟨⟨?_, (f2 b hb).2⟩, by rw [e3, Heap.size_push]; exact Nat.lt_succ_of_lt (older b hb)⟩
    rw [upd_ne (by rw [← hD]; exact Nat.ne_of_lt (older b hb))]
    exact (f2 b hb).1
  have st3 : tn 0 s3.heap := T.keep _ _ _ st2 fun b _ o e => by rw [e3]; exact Heap.get?_push_of_some _ e
  have I4 := block_start I3 ok nod f3
  have pg := pgs s3 (upd H2 D (.lst [])) s3.heap.objs.size (cellsFrom (s3.heap.objs.size + 1) scope.names (cloFrom X.env.cells scope.names [])) fp
  have pe := pes s3 (upd H2 D (.lst [])) s3.heap.objs.size (cellsFrom (s3.heap.objs.size + 1) scope.names (cloFrom X.env.cells scope.names [])) fp
  have nfp : ∀ b ∈ fp, (upd H2 D (.lst [])) b = none := fun b hb => (f3 b hb).1.1
  show codeAny _ _ (.compStart (.ListComp elt [⟨tg, iter, [], 0⟩] scope pos) 0 (.ref it) (.ref D) (compEnvC scope (cellsFrom (s3.heap.objs.size + 1) scope.names (cloFrom X.env.cells scope.names [])) s3.heap.objs.size X.env))
    (compEnds (model X.prog X.w) X.A X.xe none _ (.ref D) (compEnvC scope (cellsFrom (s3.heap.objs.size + 1) scope.names (cloFrom X.env.cells scope.names [])) s3.heap.objs.size X.env)) { s3 with heap := pushCells (s3.heap.push { cls := .type "dict", data := .dict #[] }) scope.names }
  generalize hce : compEnvC scope (cellsFrom (s3.heap.objs.size + 1) scope.names (cloFrom X.env.cells scope.names [])) s3.heap.objs.size X.env = ce at I4 pg pe ⊢
  have cL : ce.locals = s3.heap.objs.size := by subst hce; rfl
  have cF : ce.frame = X.env.frame := by subst hce; rfl
  generalize upd H2 D (.lst []) = H3 at I3 I4 pg pe w0 nfp f3
  generalize hs4 : ({ s3 with heap := pushCells (s3.heap.push { cls := .type "dict", data := .dict #[] }) scope.names } : Shared) = s4 at I4 ⊢
  have st4 : tn 0 s4.heap := T.keep _ _ _ st3 fun b _ o e => by rw [← hs4]; exact pushCells_keeps _ _ _ _ (Heap.get?_push_of_some _ e)
  have statF : ∀ {τ : L2.St} {G : Hp} {t : Shared}, Inv (X.blk s3 H3 scope ce fp) [] τ G t → (∀ b ∈ fp, G b = none) → ∀ b ∈ fp, FpOk (X.blk s3 H3 scope ce fp) [] G b := fun {τ G t} I' hn b hb =>
    ⟨hn b hb, (I'.ok.exf b hb).1, I'.ok.exfs b hb, .inl hb, fun x c e => (I'.ok.exf b hb).2 x c e, fun p hp => absurd (show p ∈ ([] : List (Addr × Obj)) ++ [] from hp) (by simp)⟩
  have outI : ∀ {p5 : List (Addr × Obj)} {τ : L2.St} {G : Hp} {t : Shared}, Inv (X.blk s3 H3 scope ce fp) p5 τ G t → Inv X pins σ G t := fun {p5 τ G t} I' =>
    I3.call' (ch := fp) I'.os I'.base I'.hok I'.bare fun b hb => ⟨(f3 b hb).1.2.2.2.1, (f3 b hb).1.2.1, (f3 b hb).1.2.2.2.2.1, (f3 b hb).1.2.2.2.2.2⟩
  have fpC : ∀ {G : Hp}, G ce.locals = none → FpOk X pins G ce.locals := fun {G} z => by
    rw [cL] at z ⊢
    exact I3.fpOk (Nat.le_refl _) z
  have nC4 : H3 ce.locals = none := I4.free
  obtain ⟨_, c1, c2, c3, c4, c5⟩ := fpC nC4
  have c6 : ce.locals ∉ frs X.stack := by
    rw [hstk]
    intro z
    rcases List.mem_filterMap.mp z with ⟨ev, hev, e⟩
    rcases List.mem_cons.mp hev with y | y
    · rw [y, hfrm] at e
      exact c1 (Option.some.inj e).symm
    · exact c2 (List.mem_filterMap.mpr ⟨ev, y, e⟩)
  have c3' : X.s_0.heap.objs.size ≤ ce.locals := by
    rw [cL]
    exact I3.sz
  have pass := blk_raise (E := E) (s3 := s3) (H3 := H3) (scope := scope) (ce := ce) (fp := fp) hstk hfrm cF tk I3 c1 c3' c6 c4 c5 (fun I' => outI I')
  have pe := pe _ pass
  have loop : codeAny (model X.prog X.w) X.A (.compLoop (.ListComp elt [⟨tg, iter, [], 0⟩] scope pos) 0 (.ref it) (.ref D) ce) (compEnds (model X.prog X.w) X.A X.xe none (EP X pins σ Q) (.ref D) ce) s4 := by
    refine compLoop_any (fun n t => ∃ i G, Inv (X.blk s3 H3 scope ce fp) [] (wipe σ (own.map (·.2))) G t ∧ tn i t.heap ∧ (∀ b ∈ fp, G b = none) ∧ W i n G) ?_ m0 ⟨0, H3, I4, st4, nfp, w0⟩
    rintro n s5 ⟨i, H5, I5, st5, n5, w5⟩
    rcases turn i n H5 w5 with ⟨stop, qq⟩ | ⟨go, Nx, hNx, step⟩
    · refine thnF (T.done (X.blk s3 H3 scope ce fp) rfl rfl rfl calm i [] s5 _ H5 (fun _ _ => False) I5 (statF I5 n5) st5 stop) fun r s6 ⟨hr, I6⟩ => ?_
      subst hr
      obtain ⟨m, hn, _⟩ := I6.loc
      have nC : H5 ce.locals = none := I6.free
      obtain ⟨g0, g1, g2, g3, g4, g5⟩ := fpC nC
      exact ⟨m, hn, fun h6 sb => ⟨.ref D, H5, (outI I6).turned (t' := s6.toks) (fun b o hb e => (sb.2 b hb).trans e) g0 g1 g3 g4 g5, rfl, qq⟩⟩
    · refine thnF (T.item (X.blk s3 H3 scope ce fp) rfl rfl rfl calm i [] s5 _ H5 (fun _ _ => False) I5 (statF I5 n5) st5 go) fun r s6 ⟨u, hr, h6⟩ => ?_
      subst hr
      refine thnF h6 fun _ s7 ⟨x, H7, I7, r7, y7, st7, n7⟩ => ?_
      refine thnF (pg.run _ s7 _ H7 x u _ (I7.pinned (statF I7 n7) (T.obj _ _ st7)) r7 (step x H7 y7)) fun _ s8 ⟨σ8, H8, I8, hw8, q8⟩ => ?_
      refine thnF ((pts_nil (X := X.blk s3 H3 scope ce fp)).run _ s8 σ8 H8 _ I8 q8) fun b s9 ⟨H9, I9, q9⟩ => ?_
      have close : ∀ {t : Shared} {G : Hp}, Inv (X.blk s3 H3 scope ce fp) ([] ++ pinsAt fp s7.heap) σ8 G t → Nx G → ∃ m, m < n ∧ ∃ i G, Inv (X.blk s3 H3 scope ce fp) [] (wipe σ (own.map (·.2))) G t ∧ tn i t.heap ∧ (∀ b ∈ fp, G b = none) ∧ W i m G := fun {t G} I' nx => by
        obtain ⟨m', hm, w'⟩ := hNx G nx
        have pin' : ∀ b ∈ fp, ∀ o, s7.heap.get? b = some o → t.heap.get? b = some o ∧ G b = none := fun b hb o e =>
          ⟨(I'.pin (b, o) (List.mem_append_right _ (List.mem_append_right _ (mem_pinsAt hb e)))).1, (I'.pin (b, o) (List.mem_append_right _ (List.mem_append_right _ (mem_pinsAt hb e)))).2.1⟩
        refine ⟨m', hm, i + 1, G, (I'.unpinned (pins := [])).weak (by rw [← hw8, wipe_length]) (fun j v e => ?_), T.keep _ _ _ st7 fun b hb o e => (pin' b hb o e).1, fun b hb => ?_, w'⟩
        · rw [← hw8] at e
          exact (wipe_some e).1
        · obtain ⟨o, e, _⟩ := T.obj _ _ st7 b hb
          exact (pin' b hb o e).2
      cases b with
      | false =>
        simp only [Bool.false_eq_true, if_false] at q9 ⊢
        exact close I9 q9
      | true =>
        simp only [if_true] at q9 ⊢
        refine thn (pe.run _ s9 σ8 H9 _ (I9.wish _) q9) fun z s10 ⟨yv, H10, I10, r10, acc, hD10, hz10, nx⟩ => ?_
        exact app_ok (X := X.blk s3 H3 scope ce fp) I10.unwish hD10 hz10 r10 fun s11 I11 => close I11 nx
  exact codeAny_compStart_list loop (T.self X.A 0 _ _ _ st4 loop)
end
end AK
set_option Elab.async false
set_option linter.all false
set_option maxRecDepth 100000
set_option maxHeartbeats 4000000
namespace AK
open PySem PySem.Spec PyProof.Rows L2
section
variable {P : Program} {w : World} {K : PySem.W.Frag} {mg : Str → Option Value} {base : Heap} {a : Ads}
def spAsc : Sp := fun vs H Q _ => ∃ (z x : Str), vs = [.str z, .str x] ∧ z.length ≤ 1000 ∧ ∀ H', Same H H' → Q (.bl (asc (lt z) (lt x))) H'
theorem ok_is_ascending (T : Txt K mg a) : FnOk P w K mg base CX0 1 a.a_is_ascending a.d_is_ascending ["letters", "text"] spAsc := by
  refine T.F_is_ascending.ok sc_is_ascending (fun vs H Q E h => ?_) (fun cdv A outer s H vs Q E hr h => ?_)
  · obtain ⟨z, n, rfl, _⟩ := h
    rfl
  · obtain ⟨z, x, rfl, hz, q⟩ := h
    refine ⟨_, (pss_cons (ps_set (i := 2) sc_is_ascending.nd rfl (.inl rfl) (pv 0))
      (pss_cons (ps_for PassesOwn.never rfl (pi_str (pv 1)) (pg_name (i := 3) sc_is_ascending.nd rfl (.inl rfl))
      (pss_cons (ps_if (pt_cmpR op_notIn_sign (pv 3) (pv 2) rfl)
      (pss_one (ps_ret pe_bl))
      pss_nil)
      (pss_one (ps_set (i := 2) sc_is_ascending.nd rfl (.inl rfl) (pe_ix ixHT (pe_partition (pv 2) (pv 3)) pe_int (fun _ _ => rfl))))))
      (pss_one (ps_ret pe_bl)))), ?_⟩
    simp only [tSeq, tAsg, tRet, tRetN, tDrop, tIfS, tNext, tNever, tOp, tUn, tVar, tC, rI0, rI, rU, tTest, tIf, tB, tAnd, tOr, tNot, tAndV, tOrV, tNotV, gName, gSub, gTupH, gCons, gNil, tYes, tCons, tNil, tLst, tTup, tCB, tCall, tMeth, tMake, tFld, sFld, tFor_c, tLc_c, iRng1, iList, iTup, iStr, iSeqB, iEnumB, tM1, tSl, tPart, tNoPart, rSlS, rIxS, tBM, rAppend, tIf, rEq, rNe, scal, hIx, hIxT, hIxB, hSet, hInt, hIntB, hLen, hLenT, hLenB, L2.start, wipe, List.map_cons, List.map_nil, List.set_cons_zero, List.set_cons_succ, List.set_nil, List.length_cons, List.length_nil, List.length_map, List.cons_append, List.nil_append, List.append_nil, List.replicate, List.getElem?_cons_zero, List.getElem?_cons_succ, Option.some.injEq, V.int.injEq, V.bl.injEq, V.ref.injEq, V.str.injEq, List.cons.injEq, exists_eq_left', exists_eq_left, exists_and_left, and_assoc, upd_same, upd_upd, HO.lst.injEq, HO.tup.injEq, atI_0, atI_1, atI_2, atI_3, set_1, set_2, set_3, CDiv, CPow, CMul, List.length_set, Int.reduceToNat, Int.reduceLE, Int.reduceLT, Int.reducePow, Int.reduceNeg, Nat.reduceAdd, Nat.reduceLT, Nat.reduceLeDiff, Nat.reducePow, Nat.zero_add, or_true, true_or, gt_iff_lt, ge_iff_le, and_true, true_and, decide_eq_true_eq, if_true, Bool.false_eq_true, if_false]
    refine forStr (fun i σ H' => ∃ b v, σ = [some (.str z), some (.str x), some (.str (tx b)), v] ∧ Same H H' ∧ asc (lt z) (lt x) = asc b ((lt x).drop i) ∧ b.length ≤ 1000) ⟨lt z, none, by rw [tx_lt], Same.refl _, rfl, by rw [len_lt]; exact hz⟩ ?_ ?_
    · rintro i c σ H' hc ⟨b, v, rfl, hs, ea, hb⟩
      rw [drop_at hc, asc_cons] at ea
      simp only [tSeq, tAsg, tRet, tRetN, tDrop, tIfS, tNext, tNever, tOp, tUn, tVar, tC, rI0, rI, rU, tTest, tIf, tB, tAnd, tOr, tNot, tAndV, tOrV, tNotV, gName, gSub, gTupH, gCons, gNil, tYes, tCons, tNil, tLst, tTup, tCB, tCall, tMeth, tMake, tFld, sFld, tFor_c, tLc_c, iRng1, iList, iTup, iStr, iSeqB, iEnumB, tM1, tSl, tPart, tNoPart, rSlS, rIxS, tBM, rAppend, tIf, rEq, rNe, scal, hIx, hIxT, hIxB, hSet, hInt, hIntB, hLen, hLenT, hLenB, L2.start, wipe, List.map_cons, List.map_nil, List.set_cons_zero, List.set_cons_succ, List.set_nil, List.length_cons, List.length_nil, List.length_map, List.cons_append, List.nil_append, List.append_nil, List.replicate, List.getElem?_cons_zero, List.getElem?_cons_succ, Option.some.injEq, V.int.injEq, V.bl.injEq, V.ref.injEq, V.str.injEq, List.cons.injEq, exists_eq_left', exists_eq_left, exists_and_left, and_assoc, upd_same, upd_upd, HO.lst.injEq, HO.tup.injEq, atI_0, atI_1, atI_2, atI_3, set_1, set_2, set_3, CDiv, CPow, CMul, List.length_set, Int.reduceToNat, Int.reduceLE, Int.reduceLT, Int.reducePow, Int.reduceNeg, Nat.reduceAdd, Nat.reduceLT, Nat.reduceLeDiff, Nat.reducePow, Nat.zero_add, or_true, true_or, gt_iff_lt, ge_iff_le, and_true, true_and, decide_eq_true_eq, if_true, Bool.false_eq_true, if_false]
      refine ⟨c, rfl, ?_⟩
      rw [show (tx b).cps.toList = b from rfl]
      by_cases hm : c ∈ b
      · rw [decide_eq_true hm, Bool.true_and] at ea
        rw [decide_eq_true hm]
        refine iteF ⟨⟨_, rfl⟩, rfl, sizeLe hb, fun p hp => ⟨after b c, part_after hm, fun d o e => ?_, ea, Nat.le_trans (after_len b c) hb⟩⟩
        rw [upd_ne (ne_of_none (hs d o e) hp)]
        exact hs d o e
      · rw [decide_eq_false hm, Bool.false_and] at ea
        rw [decide_eq_false hm]
        refine iteT ?_
        rw [← ea]
        exact q _ hs
    · rintro σ H' ⟨b, v, rfl, hs, ea, hb⟩
      rw [List.drop_of_length_le (Nat.le_refl _), asc_nil] at ea
      have z := q _ hs
      rw [ea] at z
      exact z
end
end AK
set_option Elab.async false
set_option linter.all false
set_option maxRecDepth 100000
set_option maxHeartbeats 4000000
namespace AK
open PySem PySem.Spec PyProof.Rows L2
section
variable {P : Program} {w : World} {K : PySem.W.Frag} {mg : Str → Option Value} {base : Heap} {a : Ads}
def spPar : Sp := fun vs H Q _ => ∃ (x : Str), vs = [.str x] ∧ ∀ H', Same H H' → Q (.bl (asc A8 (lt x))) H'
theorem ok_is_parity (T : Txt K mg a) : FnOk P w K mg base CX0 2 a.a_is_parity a.d_is_parity ["text"] spPar := by
  have G_is_ascending := ok_is_ascending (P := P) (w := w) (base := base) T
  refine T.F_is_parity.ok sc_is_parity (fun vs H Q E h => ?_) (fun cdv A outer s H vs Q E hr h => ?_)
  · obtain ⟨x, rfl, _⟩ := h
    rfl
  · obtain ⟨x, rfl, q⟩ := h
    refine ⟨_, (pss_one (ps_ret (pe_call G_is_ascending (hr.mono (by first | decide | exact Nat.le_refl _ | omega)) (by rfl) T.g_is_ascending T.F_is_ascending.kp T.b_is_ascending .nil pass0 (pa_cons (pe_glob (v := .str _) rfl T.m_PARITY_LETTERS ⟨_, rfl⟩) (pa_cons (pv 0) pa_nil))))), ?_⟩
    simp only [tSeq, tAsg, tRet, tRetN, tDrop, tIfS, tNext, tNever, tOp, tUn, tVar, tC, rI0, rI, rU, tTest, tIf, tB, tAnd, tOr, tNot, tAndV, tOrV, tNotV, gName, gSub, gTupH, gCons, gNil, tYes, tCons, tNil, tLst, tTup, tCB, tCall, tMeth, tMake, tFld, sFld, tFor_c, tLc_c, iRng1, iList, iTup, iStr, iSeqB, iEnumB, tM1, tSl, tPart, tNoPart, rSlS, rIxS, tBM, rAppend, tIf, rEq, rNe, scal, hIx, hIxT, hIxB, hSet, hInt, hIntB, hLen, hLenT, hLenB, L2.start, wipe, List.map_cons, List.map_nil, List.set_cons_zero, List.set_cons_succ, List.set_nil, List.length_cons, List.length_nil, List.length_map, List.cons_append, List.nil_append, List.append_nil, List.replicate, List.getElem?_cons_zero, List.getElem?_cons_succ, Option.some.injEq, V.int.injEq, V.bl.injEq, V.ref.injEq, V.str.injEq, List.cons.injEq, exists_eq_left', exists_eq_left, exists_and_left, and_assoc, upd_same, upd_upd, HO.lst.injEq, HO.tup.injEq, atI_0, atI_1, atI_2, atI_3, set_1, set_2, set_3, CDiv, CPow, CMul, List.length_set, Int.reduceToNat, Int.reduceLE, Int.reduceLT, Int.reducePow, Int.reduceNeg, Nat.reduceAdd, Nat.reduceLT, Nat.reduceLeDiff, Nat.reducePow, Nat.zero_add, or_true, true_or, gt_iff_lt, ge_iff_le, and_true, true_and, decide_eq_true_eq, if_true, Bool.false_eq_true, if_false]
    exact ⟨_, x, rfl, by decide +kernel, fun H' hs => q H' hs⟩
end
end AK
set_option Elab.async false
set_option linter.all false
set_option maxRecDepth 100000
set_option maxHeartbeats 4000000
namespace AK
open PySem PySem.Spec PyProof.Rows L2
section
variable {P : Program} {w : World} {K : PySem.W.Frag} {mg : Str → Option Value} {base : Heap} {a : Ads}
def spMask : Sp := fun vs H Q _ => ∃ (m : Nat), vs = [.str (pt m)] ∧ m < 256 ∧ ∀ H', Same H H' → Q (.int (m : Int)) H'
theorem ok_mask_of (T : Txt K mg a) : FnOk P w K mg base CX0 1 a.a_mask_of a.d_mask_of ["parity"] spMask := by
  refine T.F_mask_of.ok sc_mask_of (fun vs H Q E h => ?_) (fun cdv A outer s H vs Q E hr h => ?_)
  · obtain ⟨m, rfl, _⟩ := h
    rfl
  · obtain ⟨m, rfl, hm, q⟩ := h
    obtain ⟨h1, h2, h3⟩ := plB_of hm
    refine ⟨_, (pss_one (ps_ret (pe_callB (cr_sum rfl) (by rfl) T.z_sum (by decide +kernel) (pa_cons (pe_lc (own := [("letter", 1)]) (g := gName 1) (tt := tYes) (te := tOp (rI CPow fun i j => .int (i * 2 ^ j.toNat)) (tC (.int 1)) (tBMS K "str" (rIndexX (fun _ _ _ _ => False)) (tC (.str "abcdefgh")) (tCons (tVar 1) tNil)))  rfl sc_mask_of.nd (pi_str (pv 0)) (blkOk_by (own := [("letter", 1)]) (N := sc_mask_of_N) (sc := defScope s_mask_of) (by decide +kernel)) (fun _ _ _ _ _ => (pg_name (i := 1) sc_mask_of.nd rfl (.inl rfl))) (fun _ _ _ _ _ => pts_nil) (fun _ _ _ _ _ => by exact (pe_op op_shl pe_int (pe_bmS PySem.F.plainAttrs_str PySem.F.slot_str_index PySem.F.type_str_index (mt_indexX rfl takes0) (pe_glob (v := .str _) rfl T.m_PARITY_LETTERS ⟨_, rfl⟩) (pa_cons (pv 1) pa_nil))))) pa_nil)))), ?_⟩
    simp only [tSeq, tAsg, tRet, tRetN, tDrop, tIfS, tNext, tNever, tOp, tUn, tVar, tC, rI0, rI, rU, tTest, tIf, tB, tAnd, tOr, tNot, tAndV, tOrV, tNotV, gName, gSub, gTupH, gCons, gNil, tYes, tCons, tNil, tLst, tTup, tCB, tCall, tMeth, tMake, tFld, sFld, tFor_c, tLc_c, iRng1, iList, iTup, iStr, iSeqB, iEnumB, tM1, tSl, tPart, tNoPart, rSlS, rIxS, tBM, rAppend, tIf, rEq, rNe, scal, hIx, hIxT, hIxB, hSet, hInt, hIntB, hLen, hLenT, hLenB, L2.start, wipe, List.map_cons, List.map_nil, List.set_cons_zero, List.set_cons_succ, List.set_nil, List.length_cons, List.length_nil, List.length_map, List.cons_append, List.nil_append, List.append_nil, List.replicate, List.getElem?_cons_zero, List.getElem?_cons_succ, Option.some.injEq, V.int.injEq, V.bl.injEq, V.ref.injEq, V.str.injEq, List.cons.injEq, exists_eq_left', exists_eq_left, exists_and_left, and_assoc, upd_same, upd_upd, HO.lst.injEq, HO.tup.injEq, atI_0, atI_1, atI_2, atI_3, set_1, set_2, set_3, CDiv, CPow, CMul, List.length_set, Int.reduceToNat, Int.reduceLE, Int.reduceLT, Int.reducePow, Int.reduceNeg, Nat.reduceAdd, Nat.reduceLT, Nat.reduceLeDiff, Nat.reducePow, Nat.zero_add, or_true, true_or, gt_iff_lt, ge_iff_le, and_true, true_and, decide_eq_true_eq, if_true, Bool.false_eq_true, if_false]
    refine lcStr (fun i D H' => H' D = some (.lst ((((pl m).take i).map fun c => ((2 ^ (c - 97) : Nat) : Int)).map V.int)) ∧ Same H H') (fun D hD => ⟨upd_same, same_new hD⟩) ?_ ?_
    · rintro i c D H' hD hc ⟨eD, s1⟩
      have hc : (pl m)[i]? = some c := hc
      obtain ⟨c1, c2⟩ := h3 c (List.mem_of_getElem? hc)
      refine ⟨rfl, ?_⟩
      simp only [tSeq, tAsg, tRet, tRetN, tDrop, tIfS, tNext, tNever, tOp, tUn, tVar, tC, rI0, rI, rU, tTest, tIf, tB, tAnd, tOr, tNot, tAndV, tOrV, tNotV, gName, gSub, gTupH, gCons, gNil, tYes, tCons, tNil, tLst, tTup, tCB, tCall, tMeth, tMake, tFld, sFld, tFor_c, tLc_c, iRng1, iList, iTup, iStr, iSeqB, iEnumB, tM1, tSl, tPart, tNoPart, rSlS, rIxS, tBM, rAppend, tIf, rEq, rNe, scal, hIx, hIxT, hIxB, hSet, hInt, hIntB, hLen, hLenT, hLenB, L2.start, wipe, List.map_cons, List.map_nil, List.set_cons_zero, List.set_cons_succ, List.set_nil, List.length_cons, List.length_nil, List.length_map, List.cons_append, List.nil_append, List.append_nil, List.replicate, List.getElem?_cons_zero, List.getElem?_cons_succ, Option.some.injEq, V.int.injEq, V.bl.injEq, V.ref.injEq, V.str.injEq, List.cons.injEq, exists_eq_left', exists_eq_left, exists_and_left, and_assoc, upd_same, upd_upd, HO.lst.injEq, HO.tup.injEq, atI_0, atI_1, atI_2, atI_3, set_1, set_2, set_3, CDiv, CPow, CMul, List.length_set, Int.reduceToNat, Int.reduceLE, Int.reduceLT, Int.reducePow, Int.reduceNeg, Nat.reduceAdd, Nat.reduceLT, Nat.reduceLeDiff, Nat.reducePow, Nat.zero_add, or_true, true_or, gt_iff_lt, ge_iff_le, and_true, true_and, decide_eq_true_eq, if_true, Bool.false_eq_true, if_false]
      unfold tBMS rIndexX
      simp only [tSeq, tAsg, tRet, tRetN, tDrop, tIfS, tNext, tNever, tOp, tUn, tVar, tC, rI0, rI, rU, tTest, tIf, tB, tAnd, tOr, tNot, tAndV, tOrV, tNotV, gName, gSub, gTupH, gCons, gNil, tYes, tCons, tNil, tLst, tTup, tCB, tCall, tMeth, tMake, tFld, sFld, tFor_c, tLc_c, iRng1, iList, iTup, iStr, iSeqB, iEnumB, tM1, tSl, tPart, tNoPart, rSlS, rIxS, tBM, rAppend, tIf, rEq, rNe, scal, hIx, hIxT, hIxB, hSet, hInt, hIntB, hLen, hLenT, hLenB, L2.start, wipe, List.map_cons, List.map_nil, List.set_cons_zero, List.set_cons_succ, List.set_nil, List.length_cons, List.length_nil, List.length_map, List.cons_append, List.nil_append, List.append_nil, List.replicate, List.getElem?_cons_zero, List.getElem?_cons_succ, Option.some.injEq, V.int.injEq, V.bl.injEq, V.ref.injEq, V.str.injEq, List.cons.injEq, exists_eq_left', exists_eq_left, exists_and_left, and_assoc, upd_same, upd_upd, HO.lst.injEq, HO.tup.injEq, atI_0, atI_1, atI_2, atI_3, set_1, set_2, set_3, CDiv, CPow, CMul, List.length_set, Int.reduceToNat, Int.reduceLE, Int.reduceLT, Int.reducePow, Int.reduceNeg, Nat.reduceAdd, Nat.reduceLT, Nat.reduceLeDiff, Nat.reducePow, Nat.zero_add, or_true, true_or, gt_iff_lt, ge_iff_le, and_true, true_and, decide_eq_true_eq, if_true, Bool.false_eq_true, if_false]
      have ix := ix8 c1 c2
      refine ⟨rfl, fun k ek => ?_, fun ek => ?_⟩
      · rw [A8_tx, ix] at ek
        cases ek
        refine ⟨Int.natCast_nonneg _, by omega, by decide, _, eD, ?_, ?_, same_out s1 hD⟩
        · rw [List.length_map, List.length_map, List.length_take]
          exact small1000 (by have := pl_len m; omega)
        · rw [take_s hc, List.map_append, List.map_append, Int.toNat_natCast, Int.one_mul]
          rfl
      · rw [A8_tx, ix] at ek
        cases ek
    · rintro D H' hD ⟨eD, s1⟩
      refine ⟨D, _, rfl, SqL.of eD, ?_⟩
      rw [show (lt (pt m)).length = (pl m).length from rfl, List.take_of_length_le (Nat.le_refl _), ni_pow, h2]
      exact q H' s1
def spRem (K : PySem.W.Frag) : Sp := fun vs H Q _ => ∃ (p : Addr) (R : List Nat) (m : Nat), vs = [.ref p, .int (m : Int)] ∧ SqL K H p (ni R) ∧ Q (.int (rem R m : Nat)) H
theorem ok_remainder (T : Txt K mg a) : FnOk P w K mg base CX0 1 a.a_remainder a.d_remainder ["span", "mask"] (spRem K) := by
  refine T.F_remainder.ok sc_remainder (fun vs H Q E h => ?_) (fun cdv A outer s H vs Q E hr h => ?_)
  · obtain ⟨_, _, _, rfl, _⟩ := h
    rfl
  · obtain ⟨p, R, m, rfl, hS, q⟩ := h
    refine ⟨_, (pss_cons (ps_for PassesOwn.never rfl (pi_list (pv 0)) (pg_name (i := 2) sc_remainder.nd rfl (.inl rfl))
      (pss_one (ps_set (i := 1) sc_remainder.nd rfl (.inl rfl) (pe_callB (call_min2 rfl) (by rfl) T.z_min (by decide +kernel) (pa_cons (pv 1) (pa_cons (pe_op op_xor (pv 1) (pv 2)) pa_nil))))))
      (pss_one (ps_ret (pv 1)))), ?_⟩
    simp only [tSeq, tAsg, tRet, tRetN, tDrop, tIfS, tNext, tNever, tOp, tUn, tVar, tC, rI0, rI, rU, tTest, tIf, tB, tAnd, tOr, tNot, tAndV, tOrV, tNotV, gName, gSub, gTupH, gCons, gNil, tYes, tCons, tNil, tLst, tTup, tCB, tCall, tMeth, tMake, tFld, sFld, tFor_c, tLc_c, iRng1, iList, iTup, iStr, iSeqB, iEnumB, tM1, tSl, tPart, tNoPart, rSlS, rIxS, tBM, rAppend, tIf, rEq, rNe, scal, hIx, hIxT, hIxB, hSet, hInt, hIntB, hLen, hLenT, hLenB, L2.start, wipe, List.map_cons, List.map_nil, List.set_cons_zero, List.set_cons_succ, List.set_nil, List.length_cons, List.length_nil, List.length_map, List.cons_append, List.nil_append, List.append_nil, List.replicate, List.getElem?_cons_zero, List.getElem?_cons_succ, Option.some.injEq, V.int.injEq, V.bl.injEq, V.ref.injEq, V.str.injEq, List.cons.injEq, exists_eq_left', exists_eq_left, exists_and_left, and_assoc, upd_same, upd_upd, HO.lst.injEq, HO.tup.injEq, atI_0, atI_1, atI_2, atI_3, set_1, set_2, set_3, CDiv, CPow, CMul, List.length_set, Int.reduceToNat, Int.reduceLE, Int.reduceLT, Int.reducePow, Int.reduceNeg, Nat.reduceAdd, Nat.reduceLT, Nat.reduceLeDiff, Nat.reducePow, Nat.zero_add, or_true, true_or, gt_iff_lt, ge_iff_le, and_true, true_and, decide_eq_true_eq, if_true, Bool.false_eq_true, if_false]
    refine ⟨⟨_, hS⟩, ?_⟩
    refine forLst (xs := ni R) (fun i σ H' => ∃ (n : Nat) (v : Option V), σ = [some (.ref p), some (.int (n : Int)), v] ∧ H' = H ∧ rem R m = rem (R.drop i) n) ⟨m, none, rfl, rfl, rfl⟩ ?_ ?_ ?_
    · rintro i σ H' _ ⟨n, v, rfl, rfl, _⟩
      exact hS
    · rintro i x σ H' hx ⟨n, v, rfl, rfl, e⟩
      obtain ⟨r, hr2, rfl⟩ := ni_at hx
      rw [drop_at hr2] at e
      simp only [tSeq, tAsg, tRet, tRetN, tDrop, tIfS, tNext, tNever, tOp, tUn, tVar, tC, rI0, rI, rU, tTest, tIf, tB, tAnd, tOr, tNot, tAndV, tOrV, tNotV, gName, gSub, gTupH, gCons, gNil, tYes, tCons, tNil, tLst, tTup, tCB, tCall, tMeth, tMake, tFld, sFld, tFor_c, tLc_c, iRng1, iList, iTup, iStr, iSeqB, iEnumB, tM1, tSl, tPart, tNoPart, rSlS, rIxS, tBM, rAppend, tIf, rEq, rNe, scal, hIx, hIxT, hIxB, hSet, hInt, hIntB, hLen, hLenT, hLenB, L2.start, wipe, List.map_cons, List.map_nil, List.set_cons_zero, List.set_cons_succ, List.set_nil, List.length_cons, List.length_nil, List.length_map, List.cons_append, List.nil_append, List.append_nil, List.replicate, List.getElem?_cons_zero, List.getElem?_cons_succ, Option.some.injEq, V.int.injEq, V.bl.injEq, V.ref.injEq, V.str.injEq, List.cons.injEq, exists_eq_left', exists_eq_left, exists_and_left, and_assoc, upd_same, upd_upd, HO.lst.injEq, HO.tup.injEq, atI_0, atI_1, atI_2, atI_3, set_1, set_2, set_3, CDiv, CPow, CMul, List.length_set, Int.reduceToNat, Int.reduceLE, Int.reduceLT, Int.reducePow, Int.reduceNeg, Nat.reduceAdd, Nat.reduceLT, Nat.reduceLeDiff, Nat.reducePow, Nat.zero_add, or_true, true_or, gt_iff_lt, ge_iff_le, and_true, true_and, decide_eq_true_eq, if_true, Bool.false_eq_true, if_false]
      have ec : (if Builtin.bitXor (n : Int) (r : Int) < (n : Int) then Builtin.bitXor (n : Int) (r : Int) else (n : Int)) = ((cl r n : Nat) : Int) := by
        rw [xor_nat]
        unfold cl
        by_cases c : n ^^^ r < n
        · rw [if_pos c, if_pos (by exact_mod_cast c)]
        · rw [if_neg c, if_neg (fun z => c (by exact_mod_cast z))]
      rw [ec]
      exact ⟨cl r n, rfl, e⟩
    · rintro σ H' ⟨n, v, rfl, rfl, e⟩
      rw [ni_len, List.drop_of_length_le (Nat.le_refl _)] at e
      simp only [tSeq, tAsg, tRet, tRetN, tDrop, tIfS, tNext, tNever, tOp, tUn, tVar, tC, rI0, rI, rU, tTest, tIf, tB, tAnd, tOr, tNot, tAndV, tOrV, tNotV, gName, gSub, gTupH, gCons, gNil, tYes, tCons, tNil, tLst, tTup, tCB, tCall, tMeth, tMake, tFld, sFld, tFor_c, tLc_c, iRng1, iList, iTup, iStr, iSeqB, iEnumB, tM1, tSl, tPart, tNoPart, rSlS, rIxS, tBM, rAppend, tIf, rEq, rNe, scal, hIx, hIxT, hIxB, hSet, hInt, hIntB, hLen, hLenT, hLenB, L2.start, wipe, List.map_cons, List.map_nil, List.set_cons_zero, List.set_cons_succ, List.set_nil, List.length_cons, List.length_nil, List.length_map, List.cons_append, List.nil_append, List.append_nil, List.replicate, List.getElem?_cons_zero, List.getElem?_cons_succ, Option.some.injEq, V.int.injEq, V.bl.injEq, V.ref.injEq, V.str.injEq, List.cons.injEq, exists_eq_left', exists_eq_left, exists_and_left, and_assoc, upd_same, upd_upd, HO.lst.injEq, HO.tup.injEq, atI_0, atI_1, atI_2, atI_3, set_1, set_2, set_3, CDiv, CPow, CMul, List.length_set, Int.reduceToNat, Int.reduceLE, Int.reduceLT, Int.reducePow, Int.reduceNeg, Nat.reduceAdd, Nat.reduceLT, Nat.reduceLeDiff, Nat.reducePow, Nat.zero_add, or_true, true_or, gt_iff_lt, ge_iff_le, and_true, true_and, decide_eq_true_eq, if_true, Bool.false_eq_true, if_false]
      rw [e] at q
      exact q
def spSpanned (K : PySem.W.Frag) : Sp := fun vs H Q _ => ∃ (p b : Addr) (ms R : List Nat), vs = [.ref p, .ref b] ∧ SqL K H p (ni ms) ∧ (SqL K H b (ni R) ∨ SqT K H b (ni R)) ∧ R.length + ms.length ≤ 900 ∧
  ∀ D H', Same H H' → H D = none → H' D = some (.lst (ni (spn ms R))) → Q (.ref D) H'
theorem SqL.seq' {K : PySem.W.Frag} {H H' : Hp} {p : Addr} {xs : List V} (s : Same H H') (h : SqL K H p xs) : SqL K H' p xs := s.seq h
theorem ok_spanned (T : Txt K mg a) : FnOk P w K mg base CX0 2 a.a_spanned a.d_spanned ["masks", "span"] (spSpanned K) := by
  have G_remainder := ok_remainder (P := P) (w := w) (base := base) T
  refine FunD.ok0 T.F_spanned sc_spanned (fun vs H Q E h => ?_) (fun cdv A outer s H vs Q E hr h => ?_)
  · obtain ⟨_, _, _, _, rfl, _⟩ := h
    rfl
  · obtain ⟨p, b, ms, R, rfl, hS, hB, hl, q⟩ := h
    refine ⟨_, (pss_cons (ps_set (i := 2) sc_spanned.nd rfl (.inl rfl) (pe_callTy call_list_of (by rfl) T.z_list (by decide +kernel) (pa_cons (pv 1) pa_nil)))
      (pss_cons (ps_for PassesOwn.never rfl (pi_list (pv 0)) (pg_name (i := 3) sc_spanned.nd rfl (.inl rfl))
      (pss_cons (ps_set (i := 4) sc_spanned.nd rfl (.inl rfl) (pe_call G_remainder (hr.mono (by first | decide | exact Nat.le_refl _ | omega)) (by rfl) T.g_remainder T.F_remainder.kp T.b_remainder .nil pass0 (pa_cons (pv 2) (pa_cons (pv 3) pa_nil))))
      (pss_one (ps_if (pt_truth (pv 4) (by intro _; rfl))
      (pss_one (ps_expr (pe_bm PySem.F.plainAttrs_list PySem.F.slot_list_append PySem.F.type_list_append mt_append (pv 2) (pa_cons (pv 4) pa_nil))))
      pss_nil))))
      (pss_one (ps_ret (pv 2))))), ?_⟩
    simp only [tSeq, tAsg, tRet, tRetN, tDrop, tIfS, tNext, tNever, tOp, tUn, tVar, tC, rI0, rI, rU, tTest, tIf, tB, tAnd, tOr, tNot, tAndV, tOrV, tNotV, gName, gSub, gTupH, gCons, gNil, tYes, tCons, tNil, tLst, tTup, tCB, tCall, tMeth, tMake, tFld, sFld, tFor_c, tLc_c, iRng1, iList, iTup, iStr, iSeqB, iEnumB, tM1, tSl, tPart, tNoPart, rSlS, rIxS, tBM, rAppend, tIf, rEq, rNe, scal, hIx, hIxT, hIxB, hSet, hInt, hIntB, hLen, hLenT, hLenB, L2.start, wipe, List.map_cons, List.map_nil, List.set_cons_zero, List.set_cons_succ, List.set_nil, List.length_cons, List.length_nil, List.length_map, List.cons_append, List.nil_append, List.append_nil, List.replicate, List.getElem?_cons_zero, List.getElem?_cons_succ, Option.some.injEq, V.int.injEq, V.bl.injEq, V.ref.injEq, V.str.injEq, List.cons.injEq, exists_eq_left', exists_eq_left, exists_and_left, and_assoc, upd_same, upd_upd, HO.lst.injEq, HO.tup.injEq, atI_0, atI_1, atI_2, atI_3, set_1, set_2, set_3, CDiv, CPow, CMul, List.length_set, Int.reduceToNat, Int.reduceLE, Int.reduceLT, Int.reducePow, Int.reduceNeg, Nat.reduceAdd, Nat.reduceLT, Nat.reduceLeDiff, Nat.reducePow, Nat.zero_add, or_true, true_or, gt_iff_lt, ge_iff_le, and_true, true_and, decide_eq_true_eq, if_true, Bool.false_eq_true, if_false]
    refine ⟨_, hB, fun D hD => ⟨⟨_, (same_new hD).seq hS⟩, ?_⟩⟩
    refine forLst (xs := ni ms) (fun i σ H' => ∃ (v w : Option V), σ = [some (.ref p), some (.ref b), some (.ref D), v, w] ∧ Same H H' ∧ H' D = some (.lst (ni (spn (ms.take i) R)))) ⟨none, none, rfl, same_new hD, upd_same⟩ ?_ ?_ ?_
    · rintro i σ H' _ ⟨v, w, rfl, s1, _⟩
      exact s1.seq hS
    · rintro i x σ H' hx ⟨v, w, rfl, s1, eD⟩
      obtain ⟨m, hm, rfl⟩ := ni_at hx
      simp only [tSeq, tAsg, tRet, tRetN, tDrop, tIfS, tNext, tNever, tOp, tUn, tVar, tC, rI0, rI, rU, tTest, tIf, tB, tAnd, tOr, tNot, tAndV, tOrV, tNotV, gName, gSub, gTupH, gCons, gNil, tYes, tCons, tNil, tLst, tTup, tCB, tCall, tMeth, tMake, tFld, sFld, tFor_c, tLc_c, iRng1, iList, iTup, iStr, iSeqB, iEnumB, tM1, tSl, tPart, tNoPart, rSlS, rIxS, tBM, rAppend, tIf, rEq, rNe, scal, hIx, hIxT, hIxB, hSet, hInt, hIntB, hLen, hLenT, hLenB, L2.start, wipe, List.map_cons, List.map_nil, List.set_cons_zero, List.set_cons_succ, List.set_nil, List.length_cons, List.length_nil, List.length_map, List.cons_append, List.nil_append, List.append_nil, List.replicate, List.getElem?_cons_zero, List.getElem?_cons_succ, Option.some.injEq, V.int.injEq, V.bl.injEq, V.ref.injEq, V.str.injEq, List.cons.injEq, exists_eq_left', exists_eq_left, exists_and_left, and_assoc, upd_same, upd_upd, HO.lst.injEq, HO.tup.injEq, atI_0, atI_1, atI_2, atI_3, set_1, set_2, set_3, CDiv, CPow, CMul, List.length_set, Int.reduceToNat, Int.reduceLE, Int.reduceLT, Int.reducePow, Int.reduceNeg, Nat.reduceAdd, Nat.reduceLT, Nat.reduceLeDiff, Nat.reducePow, Nat.zero_add, or_true, true_or, gt_iff_lt, ge_iff_le, and_true, true_and, decide_eq_true_eq, if_true, Bool.false_eq_true, if_false]
      have hlen : (spn (ms.take i) R).length ≤ 900 := by
        have := spn_len (ms.take i) R
        rw [List.length_take] at this
        omega
      refine ⟨D, _, m, rfl, SqL.of eD, ?_⟩
      rw [spn_take R hm]
      unfold sp
      by_cases hz : rem (spn (ms.take i) R) m = 0
      · rw [hz]
        refine ⟨false, rfl, ?_⟩
        rw [if_neg (by decide), if_pos rfl]
        exact ⟨s1, eD⟩
      · refine ⟨true, (bne_iff_ne.mpr (by exact_mod_cast hz)).symm, ?_⟩
        rw [if_pos rfl, if_neg hz]
        refine ⟨.inl ⟨rfl, _, SqL.of eD⟩, _, eD, ?_, same_out s1 hD, ni_snoc _ _⟩
        rw [ni_len]
        exact small1000 (by omega)
    · rintro σ H' ⟨v, w, rfl, s1, eD⟩
      rw [ni_len, List.take_of_length_le (Nat.le_refl _)] at eD
      simp only [tSeq, tAsg, tRet, tRetN, tDrop, tIfS, tNext, tNever, tOp, tUn, tVar, tC, rI0, rI, rU, tTest, tIf, tB, tAnd, tOr, tNot, tAndV, tOrV, tNotV, gName, gSub, gTupH, gCons, gNil, tYes, tCons, tNil, tLst, tTup, tCB, tCall, tMeth, tMake, tFld, sFld, tFor_c, tLc_c, iRng1, iList, iTup, iStr, iSeqB, iEnumB, tM1, tSl, tPart, tNoPart, rSlS, rIxS, tBM, rAppend, tIf, rEq, rNe, scal, hIx, hIxT, hIxB, hSet, hInt, hIntB, hLen, hLenT, hLenB, L2.start, wipe, List.map_cons, List.map_nil, List.set_cons_zero, List.set_cons_succ, List.set_nil, List.length_cons, List.length_nil, List.length_map, List.cons_append, List.nil_append, List.append_nil, List.replicate, List.getElem?_cons_zero, List.getElem?_cons_succ, Option.some.injEq, V.int.injEq, V.bl.injEq, V.ref.injEq, V.str.injEq, List.cons.injEq, exists_eq_left', exists_eq_left, exists_and_left, and_assoc, upd_same, upd_upd, HO.lst.injEq, HO.tup.injEq, atI_0, atI_1, atI_2, atI_3, set_1, set_2, set_3, CDiv, CPow, CMul, List.length_set, Int.reduceToNat, Int.reduceLE, Int.reduceLT, Int.reducePow, Int.reduceNeg, Nat.reduceAdd, Nat.reduceLT, Nat.reduceLeDiff, Nat.reducePow, Nat.zero_add, or_true, true_or, gt_iff_lt, ge_iff_le, and_true, true_and, decide_eq_true_eq, if_true, Bool.false_eq_true, if_false]
      exact q D H' s1 hD eD
end
end AK
set_option Elab.async false
set_option linter.all false
set_option maxRecDepth 100000
set_option maxHeartbeats 4000000
namespace AK
open PySem PySem.Spec PyProof.Rows L2
section
variable {P : Program} {w : World} {K : PySem.W.Frag} {mg : Str → Option Value} {base : Heap} {a : Ads}
def spBas (K : PySem.W.Frag) : Sp := fun vs H Q _ => ∃ (p : Addr) (ms : List Nat), vs = [.ref p] ∧ SqL K H p (ni ms) ∧ ms.length ≤ 900 ∧ ∀ D H', Same H H' → H D = none → H' D = some (.lst (ni (bas ms [] 0))) → Q (.ref D) H'
theorem ok_basis_indices (T : Txt K mg a) : FnOk P w K mg base CX0 2 a.a_basis_indices a.d_basis_indices ["masks"] (spBas K) := by
  have G_remainder := ok_remainder (P := P) (w := w) (base := base) T
  refine T.F_basis_indices.ok sc_basis_indices (fun vs H Q E h => ?_) (fun cdv A outer s H vs Q E hr h => ?_)
  · obtain ⟨_, _, rfl, _⟩ := h
    rfl
  · obtain ⟨p, ms, rfl, hS, hl, q⟩ := h
    refine ⟨_, (pss_cons (ps_set (i := 1) sc_basis_indices.nd rfl (.inl rfl) (pe_lst pa_nil))
      (pss_cons (ps_set (i := 2) sc_basis_indices.nd rfl (.inl rfl) (pe_lst pa_nil))
      (pss_cons (ps_for PassesOwn.never rfl (pi_enumB (by rfl) T.z_enumerate (pa_cons (pv 0) pa_nil)) (pg_tupH (n := 2) (by rfl) (pgs_cons (pg_name (i := 3) sc_basis_indices.nd rfl (.inl rfl)) (pgs_cons (pg_name (i := 4) sc_basis_indices.nd rfl (.inl rfl)) pgs_nil)))
      (pss_cons (ps_set (i := 5) sc_basis_indices.nd rfl (.inl rfl) (pe_call G_remainder (hr.mono (by first | decide | exact Nat.le_refl _ | omega)) (by rfl) T.g_remainder T.F_remainder.kp T.b_remainder .nil pass0 (pa_cons (pv 1) (pa_cons (pv 4) pa_nil))))
      (pss_one (ps_if (pt_truth (pv 5) (by intro _; rfl))
      (pss_cons (ps_expr (pe_bm PySem.F.plainAttrs_list PySem.F.slot_list_append PySem.F.type_list_append mt_append (pv 1) (pa_cons (pv 5) pa_nil)))
      (pss_one (ps_expr (pe_bm PySem.F.plainAttrs_list PySem.F.slot_list_append PySem.F.type_list_append mt_append (pv 2) (pa_cons (pv 3) pa_nil)))))
      pss_nil))))
      (pss_one (ps_ret (pv 2)))))), ?_⟩
    simp only [tSeq, tAsg, tRet, tRetN, tDrop, tIfS, tNext, tNever, tOp, tUn, tVar, tC, rI0, rI, rU, tTest, tIf, tB, tAnd, tOr, tNot, tAndV, tOrV, tNotV, gName, gSub, gTupH, gCons, gNil, tYes, tCons, tNil, tLst, tTup, tCB, tCall, tMeth, tMake, tFld, sFld, tFor_c, tLc_c, iRng1, iList, iTup, iStr, iSeqB, iEnumB, tM1, tSl, tPart, tNoPart, rSlS, rIxS, tBM, rAppend, tIf, rEq, rNe, scal, hIx, hIxT, hIxB, hSet, hInt, hIntB, hLen, hLenT, hLenB, L2.start, wipe, List.map_cons, List.map_nil, List.set_cons_zero, List.set_cons_succ, List.set_nil, List.length_cons, List.length_nil, List.length_map, List.cons_append, List.nil_append, List.append_nil, List.replicate, List.getElem?_cons_zero, List.getElem?_cons_succ, Option.some.injEq, V.int.injEq, V.bl.injEq, V.ref.injEq, V.str.injEq, List.cons.injEq, exists_eq_left', exists_eq_left, exists_and_left, and_assoc, upd_same, upd_upd, HO.lst.injEq, HO.tup.injEq, atI_0, atI_1, atI_2, atI_3, set_1, set_2, set_3, CDiv, CPow, CMul, List.length_set, Int.reduceToNat, Int.reduceLE, Int.reduceLT, Int.reducePow, Int.reduceNeg, Nat.reduceAdd, Nat.reduceLT, Nat.reduceLeDiff, Nat.reducePow, Nat.zero_add, or_true, true_or, gt_iff_lt, ge_iff_le, and_true, true_and, decide_eq_true_eq, if_true, Bool.false_eq_true, if_false]
    refine ⟨Nat.zero_le _, fun B hB => ⟨Nat.zero_le _, fun I hI => ?_⟩⟩
    have hBI : B ≠ I := ne_of_none upd_same hI
    have hI0 : H I = none := by rw [upd_ne hBI.symm] at hI; exact hI
    have s0 : Same H (upd (upd H B (.lst [])) I (.lst [])) := same_out (same_new hB) hI0
    refine .inl ⟨_, s0.seq hS, ?_⟩
    refine forEnumL (xs := ni ms) (fun i σ H' => ∃ (v w u : Option V) (R J : List Nat), σ = [some (.ref p), some (.ref B), some (.ref I), v, w, u] ∧ Same H H' ∧ H' B = some (.lst (ni R)) ∧ H' I = some (.lst (ni J)) ∧ R.length ≤ i ∧ J.length ≤ i ∧ bas ms [] 0 = J ++ bas (ms.drop i) R i) ⟨none, none, none, [], [], rfl, s0, by rw [upd_ne hBI]; exact upd_same, upd_same, Nat.le_refl _, Nat.le_refl _, rfl⟩ ?_ ?_ ?_
    · rintro i σ H' _ ⟨v, w, u, R, J, rfl, s1, _⟩
      exact s1.seq hS
    · rintro i x t σ H' hx ⟨v, w, u, R, J, rfl, s1, eB, eI, lR, lJ, eb⟩ ht
      obtain ⟨m, hm, rfl⟩ := ni_at hx
      have hi : i < ms.length := (List.getElem?_eq_some_iff.mp hm).1
      have tB : t ≠ B := fun z => by rw [z, eB] at ht; cases ht
      have tI : t ≠ I := fun z => by rw [z, eI] at ht; cases ht
      rw [bas_drop R hm] at eb
      simp only [tSeq, tAsg, tRet, tRetN, tDrop, tIfS, tNext, tNever, tOp, tUn, tVar, tC, rI0, rI, rU, tTest, tIf, tB, tAnd, tOr, tNot, tAndV, tOrV, tNotV, gName, gSub, gTupH, gCons, gNil, tYes, tCons, tNil, tLst, tTup, tCB, tCall, tMeth, tMake, tFld, sFld, tFor_c, tLc_c, iRng1, iList, iTup, iStr, iSeqB, iEnumB, tM1, tSl, tPart, tNoPart, rSlS, rIxS, tBM, rAppend, tIf, rEq, rNe, scal, hIx, hIxT, hIxB, hSet, hInt, hIntB, hLen, hLenT, hLenB, L2.start, wipe, List.map_cons, List.map_nil, List.set_cons_zero, List.set_cons_succ, List.set_nil, List.length_cons, List.length_nil, List.length_map, List.cons_append, List.nil_append, List.append_nil, List.replicate, List.getElem?_cons_zero, List.getElem?_cons_succ, Option.some.injEq, V.int.injEq, V.bl.injEq, V.ref.injEq, V.str.injEq, List.cons.injEq, exists_eq_left', exists_eq_left, exists_and_left, and_assoc, upd_same, upd_upd, HO.lst.injEq, HO.tup.injEq, atI_0, atI_1, atI_2, atI_3, set_1, set_2, set_3, CDiv, CPow, CMul, List.length_set, Int.reduceToNat, Int.reduceLE, Int.reduceLT, Int.reducePow, Int.reduceNeg, Nat.reduceAdd, Nat.reduceLT, Nat.reduceLeDiff, Nat.reducePow, Nat.zero_add, or_true, true_or, gt_iff_lt, ge_iff_le, and_true, true_and, decide_eq_true_eq, if_true, Bool.false_eq_true, if_false]
      have eB' : upd H' t (.tup [.int (i : Int), .int (m : Int)]) B = some (.lst (ni R)) := by rw [upd_ne tB.symm]; exact eB
      have eI' : upd H' t (.tup [.int (i : Int), .int (m : Int)]) I = some (.lst (ni J)) := by rw [upd_ne tI.symm]; exact eI
      have s1' : Same H (upd H' t (.tup [.int (i : Int), .int (m : Int)])) := Same.tr s1 (same_new ht)
      refine ⟨B, R, m, rfl, SqL.of eB', ?_⟩
      by_cases hz : rem R m = 0
      · rw [if_pos hz] at eb
        rw [hz]
        refine ⟨false, rfl, ?_⟩
        rw [if_neg (by decide)]
        exact ⟨s1', R, eB', J, eI', by omega, by omega, eb⟩
      · rw [if_neg hz] at eb
        refine ⟨true, (bne_iff_ne.mpr (by exact_mod_cast hz)).symm, ?_⟩
        rw [if_pos rfl]
        refine ⟨.inl ⟨rfl, _, SqL.of eB'⟩, _, eB', ?_, ?_⟩
        · rw [ni_len]
          exact small1000 (by omega)
        have eI2 : ∀ o, upd (upd H' t (.tup [.int (i : Int), .int (m : Int)])) B o I = some (.lst (ni J)) := fun o => by rw [upd_ne hBI.symm]; exact eI'
        refine ⟨.inl ⟨rfl, _, SqL.of (eI2 _)⟩, _, eI2 _, ?_, same_out (same_out s1' hB) hI0, R ++ [rem R m], ?_, J ++ [i], ni_snoc _ _, ?_, ?_, ?_⟩
        · rw [ni_len]
          exact small1000 (by omega)
        · rw [upd_ne hBI, upd_same, ni_snoc]
        · rw [List.length_append, List.length_singleton]; omega
        · rw [List.length_append, List.length_singleton]; omega
        · rw [eb, List.append_assoc]; rfl
    · rintro σ H' ⟨v, w, u, R, J, rfl, s1, eB, eI, lR, lJ, eb⟩
      rw [ni_len, List.drop_of_length_le (Nat.le_refl _)] at eb
      simp only [tSeq, tAsg, tRet, tRetN, tDrop, tIfS, tNext, tNever, tOp, tUn, tVar, tC, rI0, rI, rU, tTest, tIf, tB, tAnd, tOr, tNot, tAndV, tOrV, tNotV, gName, gSub, gTupH, gCons, gNil, tYes, tCons, tNil, tLst, tTup, tCB, tCall, tMeth, tMake, tFld, sFld, tFor_c, tLc_c, iRng1, iList, iTup, iStr, iSeqB, iEnumB, tM1, tSl, tPart, tNoPart, rSlS, rIxS, tBM, rAppend, tIf, rEq, rNe, scal, hIx, hIxT, hIxB, hSet, hInt, hIntB, hLen, hLenT, hLenB, L2.start, wipe, List.map_cons, List.map_nil, List.set_cons_zero, List.set_cons_succ, List.set_nil, List.length_cons, List.length_nil, List.length_map, List.cons_append, List.nil_append, List.append_nil, List.replicate, List.getElem?_cons_zero, List.getElem?_cons_succ, Option.some.injEq, V.int.injEq, V.bl.injEq, V.ref.injEq, V.str.injEq, List.cons.injEq, exists_eq_left', exists_eq_left, exists_and_left, and_assoc, upd_same, upd_upd, HO.lst.injEq, HO.tup.injEq, atI_0, atI_1, atI_2, atI_3, set_1, set_2, set_3, CDiv, CPow, CMul, List.length_set, Int.reduceToNat, Int.reduceLE, Int.reduceLT, Int.reducePow, Int.reduceNeg, Nat.reduceAdd, Nat.reduceLT, Nat.reduceLeDiff, Nat.reducePow, Nat.zero_add, or_true, true_or, gt_iff_lt, ge_iff_le, and_true, true_and, decide_eq_true_eq, if_true, Bool.false_eq_true, if_false]
      refine q I H' s1 hI0 ?_
      rw [eb, show bas [] R ms.length = [] from rfl, List.append_nil]
      exact eI
end
end AK
set_option Elab.async false
set_option linter.all false
set_option maxRecDepth 100000
set_option maxHeartbeats 4000000
namespace AK
open PySem PySem.Spec PyProof.Rows L2
/-! ### an exception with one attribute is made and raised -/
def OneAt (f : Str) (H H' : Hp) (d : Addr) (v : V) : Prop := Same H H' ∧ H' d = some (.xd [(f, v)])
def spOneI (C : Addr) (f : Str) : Sp := fun vs H Q _ => ∃ (e : Addr) (v : V), vs = [.ref e, v] ∧ H e = some (exo e C none) ∧
  ∀ d, H d = none → d ≠ e → Q .non (upd (upd H d (exd d [(f, v)])) e (exo e C (some d)))
theorem mk_one {C : Addr} {f : Str} {H : Hp} {v : V} {Q : XK} (q : ∀ d H', OneAt f H H' d v → Q (.ref C) (some d) H') :
    ∀ e, H e = none → spOneI C f (.ref e :: ([v] ++ [])) (upd H e (exo e C none)) (fun w H2 => w = .non ∧ ∃ d fs, H2 e = some (exo e C (some d)) ∧ H2 d = some (exd d fs) ∧ H d = none ∧ Q (.ref C) (some d) (upd (del H2 e) d (.xd fs))) (fun _ _ _ => False) := by
  intro e he
  refine ⟨e, v, rfl, upd_same, fun d hd hne => ?_⟩
  have hd' : H d = none := by rw [upd_ne hne] at hd; exact hd
  refine ⟨rfl, d, _, upd_same, ?_, hd', q d _ ⟨fun b o hb => ?_, upd_same⟩⟩
  · rw [upd_ne hne, upd_same]
  · have b1 := ne_of_none hb he
    have b2 := ne_of_none hb hd'
    rw [upd_ne b2, del_ne b1, upd_ne b1, upd_ne b2, upd_ne b1]
    exact hb
theorem mk_one2 {C : Addr} {f : Str} {H : Hp} {v : V} {Q : XK} (q : ∀ d H', OneAt f H H' d v → Q (.ref C) (some d) H') :
    ∀ e, H e = none → spOneI C f [.ref e, v] (upd H e (exo e C none)) (fun w H2 => w = .non ∧ ∃ d, H2 e = some (exo e C (some d)) ∧ ∃ fs, H2 d = some (exd d fs) ∧ H d = none ∧ Q (.ref C) (some d) (upd (del H2 e) d (.xd fs))) (fun _ _ _ => False) := by
  intro e he
  obtain ⟨e', v', h1, h2, h3⟩ := mk_one q e he
  refine ⟨e', v', h1, h2, fun d hd hne => ?_⟩
  obtain ⟨w, d', fs, k1, k2, k3, k4⟩ := h3 d hd hne
  exact ⟨w, d', k1, fs, k2, k3, k4⟩
section
variable {P : Program} {w : World} {K : PySem.W.Frag} {mg : Str → Option Value} {base : Heap} {a : Ads}
theorem ok_BadParity (T : Txt K mg a) : FnOk P w K mg base CX0 1 a.a_BadParity_init a.d_BadParity_init ["self", "text"] (spOneI a.c_BadParity "text") := by
  refine T.F_BadParity_init.ok sc_BadParity_init (fun vs H Q E h => ?_) (fun cdv A outer s H vs Q E hr h => ?_)
  · obtain ⟨_, _, rfl, _⟩ := h
    rfl
  · obtain ⟨e, v1, rfl, he, q⟩ := h
    refine ⟨_, (pss_one (ps_ost (pv 0) (pv 1) rfl)), ?_⟩
    refine ⟨_, rfl, _, rfl, e, a.c_BadParity, rfl, T.O_BadParity, T.n_BadParity_text, .inl ⟨he, fun d hd hne => ?_⟩⟩
    exact q d hd hne
/-- a parity's number; what is no parity is refused -/
def spPM (CB : Addr) : Sp := fun vs H Q E => ∃ x : Str, vs = [.str x] ∧
  ((∃ m, x = pt m ∧ m < 256 ∧ ∀ H', Same H H' → Q (.int (m : Int)) H') ∨ (asc A8 (lt x) = false ∧ ∀ d H', OneAt "text" H H' d (.str x) → E (.ref CB) (some d) H'))
theorem ok_parity_mask (T : Txt K mg a) : FnOk P w K mg base (L2.CX P w) 3 a.a_parity_mask a.d_parity_mask ["text"] (spPM a.c_BadParity) := by
  have G_is_parity := ok_is_parity (P := P) (w := w) (base := base) T
  have G_mask_of := ok_mask_of (P := P) (w := w) (base := base) T
  have G_BadParity_init := ok_BadParity (P := P) (w := w) (base := base) T
  refine T.F_parity_mask.okX sc_parity_mask (fun vs H Q E h => ?_) (fun cdv A outer s H vs Q E hr h => ?_)
  · obtain ⟨_, rfl, _⟩ := h
    rfl
  · obtain ⟨x, rfl, h⟩ := h
    refine ⟨_, (pss_cons (ps_if (pt_not (pt_val (pe_call G_is_parity (hr.mono (by first | decide | exact Nat.le_refl _ | omega)) (by rfl) T.g_is_parity T.F_is_parity.kp T.b_is_parity .nil pass0 (pa_cons (pv 0) pa_nil))))
      (pss_one (ps_raise rfl (takes_of rfl rfl rfl rfl) (pmk_oex T.O_BadParity T.I_BadParity_init T.T_BadParity_init G_BadParity_init (hr.mono (by first | decide | exact Nat.le_refl _ | omega)) T.b_BadParity_init .nil pass0 (by rfl) T.g_BadParity (pa_cons (pv 0) pa_nil))))
      pss_nil)
      (pss_one (ps_ret (pe_call G_mask_of (hr.mono (by first | decide | exact Nat.le_refl _ | omega)) (by rfl) T.g_mask_of T.F_mask_of.kp T.b_mask_of .nil pass0 (pa_cons (pv 0) pa_nil))))), ?_⟩
    simp only [gStr2, gSeqH, tDc_c, tDGet, sDPut, rCat, tBreak, rExtend, tSeq, tAsg, tRet, tRetN, tDrop, tIfS, tNext, tNever, tOp, tUn, tVar, tC, rI0, rI, rU, tTest, tIf, tB, tAnd, tOr, tNot, tAndV, tOrV, tNotV, gName, gSub, gTupH, gCons, gNil, tYes, tCons, tNil, tLst, tTup, tCB, tCall, tMeth, tMake, tFld, sFld, tFor_c, tLc_c, iRng1, iList, iTup, iStr, iSeqB, iEnumB, tM1, tSl, tPart, tNoPart, rSlS, rIxS, tBM, rAppend, tIf, rEq, rNe, scal, hIx, hIxT, hIxB, hSet, hInt, hIntB, hLen, hLenT, hLenB, L2.start, wipe, List.map_cons, List.map_nil, List.set_cons_zero, List.set_cons_succ, List.set_nil, List.length_cons, List.length_nil, List.length_map, List.cons_append, List.nil_append, List.append_nil, List.replicate, List.getElem?_cons_zero, List.getElem?_cons_succ, Option.some.injEq, V.int.injEq, V.bl.injEq, V.ref.injEq, V.str.injEq, List.cons.injEq, exists_eq_left', exists_eq_left, exists_and_left, and_assoc, upd_same, upd_upd, HO.lst.injEq, HO.tup.injEq, atI_0, atI_1, atI_2, atI_3, set_1, set_2, set_3, CDiv, CPow, CMul, List.length_set, Int.reduceToNat, Int.reduceLE, Int.reduceLT, Int.reducePow, Int.reduceNeg, Nat.reduceAdd, Nat.reduceLT, Nat.reduceLeDiff, Nat.reducePow, Nat.zero_add, or_true, true_or, gt_iff_lt, ge_iff_le, and_true, true_and, decide_eq_true_eq, if_true, Bool.false_eq_true, if_false]
    refine ⟨_, rfl, fun H1 s1 => ?_⟩
    rcases h with ⟨m, rfl, hm, q⟩ | ⟨hb, q⟩
    · rw [lt_pt, (plB_of hm).1]
      exact ⟨true, rfl, iteF ⟨m, rfl, hm, fun H' s2 => q H' (Same.tr s1 s2)⟩⟩
    · rw [hb]
      refine ⟨false, rfl, iteT ?_⟩
      unfold tMkO
      simp only [gStr2, gSeqH, tDc_c, tDGet, sDPut, rCat, tBreak, rExtend, tSeq, tAsg, tRet, tRetN, tDrop, tIfS, tNext, tNever, tOp, tUn, tVar, tC, rI0, rI, rU, tTest, tIf, tB, tAnd, tOr, tNot, tAndV, tOrV, tNotV, gName, gSub, gTupH, gCons, gNil, tYes, tCons, tNil, tLst, tTup, tCB, tCall, tMeth, tMake, tFld, sFld, tFor_c, tLc_c, iRng1, iList, iTup, iStr, iSeqB, iEnumB, tM1, tSl, tPart, tNoPart, rSlS, rIxS, tBM, rAppend, tIf, rEq, rNe, scal, hIx, hIxT, hIxB, hSet, hInt, hIntB, hLen, hLenT, hLenB, L2.start, wipe, List.map_cons, List.map_nil, List.set_cons_zero, List.set_cons_succ, List.set_nil, List.length_cons, List.length_nil, List.length_map, List.cons_append, List.nil_append, List.append_nil, List.replicate, List.getElem?_cons_zero, List.getElem?_cons_succ, Option.some.injEq, V.int.injEq, V.bl.injEq, V.ref.injEq, V.str.injEq, List.cons.injEq, exists_eq_left', exists_eq_left, exists_and_left, and_assoc, upd_same, upd_upd, HO.lst.injEq, HO.tup.injEq, atI_0, atI_1, atI_2, atI_3, set_1, set_2, set_3, CDiv, CPow, CMul, List.length_set, Int.reduceToNat, Int.reduceLE, Int.reduceLT, Int.reducePow, Int.reduceNeg, Nat.reduceAdd, Nat.reduceLT, Nat.reduceLeDiff, Nat.reducePow, Nat.zero_add, or_true, true_or, gt_iff_lt, ge_iff_le, and_true, true_and, decide_eq_true_eq, if_true, Bool.false_eq_true, if_false]
      exact mk_one2 fun d H2 hb => q d H2 ⟨Same.tr s1 hb.1, hb.2⟩
/-- the first text that is no parity is told -/
def BadAt (CB : Addr) (H : Hp) (E : XK) (L : List Str) : Prop := ∃ (ms : List Nat) (x : Str) (post : List Str), L = ms.map pt ++ x :: post ∧ (∀ m ∈ ms, m < 256) ∧ asc A8 (lt x) = false ∧ ∀ d H', OneAt "text" H H' d (.str x) → E (.ref CB) (some d) H'
theorem BadAt.move {CB : Addr} {H H' : Hp} {E : XK} {L : List Str} (h : BadAt CB H E L) (s : Same H H') : BadAt CB H' E L := by
  obtain ⟨ms, x, post, h1, h2, h3, h4⟩ := h
  exact ⟨ms, x, post, h1, h2, h3, fun d H2 z => h4 d H2 ⟨Same.tr s z.1, z.2⟩⟩
def spMsR (CB : Addr) : Sp := fun vs H Q E => ∃ (p : Addr) (L : List Str), vs = [.ref p] ∧ RowAt H p (L.map V.str) ∧ L.length ≤ 900 ∧
  ((∃ ms : List Nat, L = ms.map pt ∧ (∀ m ∈ ms, m < 256) ∧ ∀ D H', Same H H' → H D = none → H' D = some (.lst (ni ms)) → Q (.ref D) H') ∨ BadAt CB H E L)
theorem ok_message_masks (T : Txt K mg a) : FnOk P w K mg base (L2.CX P w) 4 a.a_message_masks a.d_message_masks ["messages"] (spMsR a.c_BadParity) := by
  have G_parity_mask := ok_parity_mask (P := P) (w := w) (base := base) T
  refine T.F_message_masks.okX sc_message_masks (fun vs H Q E h => ?_) (fun cdv A outer s H vs Q E hr h => ?_)
  · obtain ⟨_, _, rfl, _⟩ := h
    rfl
  · obtain ⟨p, L, rfl, hS, hl, q⟩ := h
    refine ⟨_, (pss_one (ps_ret (pe_lcE (own := [("text", 1)]) (g := gName 1) rfl rfl (takes_of rfl rfl rfl rfl) rfl sc_message_masks.nd (pi_seqB (pv 0)) (blkOk_by (own := [("text", 1)]) (N := sc_message_masks_N) (sc := defScope s_message_masks) (by decide +kernel)) (fun _ _ _ _ _ => (pg_name (i := 1) sc_message_masks.nd rfl (.inl rfl))) (fun _ _ _ _ _ _ ps => (pe_call G_parity_mask (hr.mono (by first | decide | exact Nat.le_refl _ | omega)) (by rfl) T.g_parity_mask T.F_parity_mask.kp T.b_parity_mask .nil ps (pa_cons (pv 1) pa_nil)))))), ?_⟩
    simp only [gStr2, gSeqH, tDc_c, tDGet, sDPut, rCat, tBreak, rExtend, tSeq, tAsg, tRet, tRetN, tDrop, tIfS, tNext, tNever, tOp, tUn, tVar, tC, rI0, rI, rU, tTest, tIf, tB, tAnd, tOr, tNot, tAndV, tOrV, tNotV, gName, gSub, gTupH, gCons, gNil, tYes, tCons, tNil, tLst, tTup, tCB, tCall, tMeth, tMake, tFld, sFld, tFor_c, tLc_c, iRng1, iList, iTup, iStr, iSeqB, iEnumB, tM1, tSl, tPart, tNoPart, rSlS, rIxS, tBM, rAppend, tIf, rEq, rNe, scal, hIx, hIxT, hIxB, hSet, hInt, hIntB, hLen, hLenT, hLenB, L2.start, wipe, List.map_cons, List.map_nil, List.set_cons_zero, List.set_cons_succ, List.set_nil, List.length_cons, List.length_nil, List.length_map, List.cons_append, List.nil_append, List.append_nil, List.replicate, List.getElem?_cons_zero, List.getElem?_cons_succ, Option.some.injEq, V.int.injEq, V.bl.injEq, V.ref.injEq, V.str.injEq, List.cons.injEq, exists_eq_left', exists_eq_left, exists_and_left, and_assoc, upd_same, upd_upd, HO.lst.injEq, HO.tup.injEq, atI_0, atI_1, atI_2, atI_3, set_1, set_2, set_3, CDiv, CPow, CMul, List.length_set, Int.reduceToNat, Int.reduceLE, Int.reduceLT, Int.reducePow, Int.reduceNeg, Nat.reduceAdd, Nat.reduceLT, Nat.reduceLeDiff, Nat.reducePow, Nat.zero_add, or_true, true_or, gt_iff_lt, ge_iff_le, and_true, true_and, decide_eq_true_eq, if_true, Bool.false_eq_true, if_false]
    rcases q with ⟨ms, rfl, hm, q⟩ | ⟨ms, x0, post, rfl, hm, hb, q⟩
    · rw [List.length_map] at hl
      refine lcRow hS (fun i D H' => H' D = some (.lst (ni (ms.take i))) ∧ Same H H') (fun D hD => ⟨upd_same, same_new hD⟩) (fun i D H' _ _ z o e => z.2 _ _ e) ?_ ?_
      · rintro i x D H' hD hx ⟨eD, s1⟩
        rw [List.map_map] at hx
        obtain ⟨m, hm1, rfl⟩ := map_at hx
        refine ⟨rfl, ?_⟩
        simp only [gStr2, gSeqH, tDc_c, tDGet, sDPut, rCat, tBreak, rExtend, tSeq, tAsg, tRet, tRetN, tDrop, tIfS, tNext, tNever, tOp, tUn, tVar, tC, rI0, rI, rU, tTest, tIf, tB, tAnd, tOr, tNot, tAndV, tOrV, tNotV, gName, gSub, gTupH, gCons, gNil, tYes, tCons, tNil, tLst, tTup, tCB, tCall, tMeth, tMake, tFld, sFld, tFor_c, tLc_c, iRng1, iList, iTup, iStr, iSeqB, iEnumB, tM1, tSl, tPart, tNoPart, rSlS, rIxS, tBM, rAppend, tIf, rEq, rNe, scal, hIx, hIxT, hIxB, hSet, hInt, hIntB, hLen, hLenT, hLenB, L2.start, wipe, List.map_cons, List.map_nil, List.set_cons_zero, List.set_cons_succ, List.set_nil, List.length_cons, List.length_nil, List.length_map, List.cons_append, List.nil_append, List.append_nil, List.replicate, List.getElem?_cons_zero, List.getElem?_cons_succ, Option.some.injEq, V.int.injEq, V.bl.injEq, V.ref.injEq, V.str.injEq, List.cons.injEq, exists_eq_left', exists_eq_left, exists_and_left, and_assoc, upd_same, upd_upd, HO.lst.injEq, HO.tup.injEq, atI_0, atI_1, atI_2, atI_3, set_1, set_2, set_3, CDiv, CPow, CMul, List.length_set, Int.reduceToNat, Int.reduceLE, Int.reduceLT, Int.reducePow, Int.reduceNeg, Nat.reduceAdd, Nat.reduceLT, Nat.reduceLeDiff, Nat.reducePow, Nat.zero_add, or_true, true_or, gt_iff_lt, ge_iff_le, and_true, true_and, decide_eq_true_eq, if_true, Bool.false_eq_true, if_false]
        refine ⟨pt m, rfl, .inl ⟨m, rfl, hm m (List.mem_of_getElem? hm1), fun H2 s2 => ?_⟩⟩
        refine ⟨_, s2 _ _ eD, ?_, ?_, same_out (Same.tr s1 s2) hD⟩
        · rw [ni_len, List.length_take]
          exact small1000 (by omega)
        · rw [ni_snoc, take_s hm1]
      · rintro D H' hD ⟨eD, s1⟩
        rw [List.length_map, List.length_map, List.take_of_length_le (Nat.le_refl _)] at eD
        exact q D H' s1 hD eD
    · rw [List.length_append, List.length_map, List.length_cons] at hl
      refine lcRow hS (fun i D H' => i ≤ ms.length ∧ H' D = some (.lst (ni (ms.take i))) ∧ Same H H') (fun D hD => ⟨Nat.zero_le _, upd_same, same_new hD⟩) (fun i D H' _ _ z o e => z.2.2 _ _ e) ?_ ?_
      · rintro i x D H' hD hx ⟨hi, eD, s1⟩
        refine ⟨rfl, ?_⟩
        rcases Nat.lt_or_eq_of_le hi with c | c
        · rw [List.map_append, List.getElem?_append_left (by rw [List.length_map, List.length_map]; exact c), List.map_map] at hx
          obtain ⟨m, hm1, rfl⟩ := map_at hx
          simp only [gStr2, gSeqH, tDc_c, tDGet, sDPut, rCat, tBreak, rExtend, tSeq, tAsg, tRet, tRetN, tDrop, tIfS, tNext, tNever, tOp, tUn, tVar, tC, rI0, rI, rU, tTest, tIf, tB, tAnd, tOr, tNot, tAndV, tOrV, tNotV, gName, gSub, gTupH, gCons, gNil, tYes, tCons, tNil, tLst, tTup, tCB, tCall, tMeth, tMake, tFld, sFld, tFor_c, tLc_c, iRng1, iList, iTup, iStr, iSeqB, iEnumB, tM1, tSl, tPart, tNoPart, rSlS, rIxS, tBM, rAppend, tIf, rEq, rNe, scal, hIx, hIxT, hIxB, hSet, hInt, hIntB, hLen, hLenT, hLenB, L2.start, wipe, List.map_cons, List.map_nil, List.set_cons_zero, List.set_cons_succ, List.set_nil, List.length_cons, List.length_nil, List.length_map, List.cons_append, List.nil_append, List.append_nil, List.replicate, List.getElem?_cons_zero, List.getElem?_cons_succ, Option.some.injEq, V.int.injEq, V.bl.injEq, V.ref.injEq, V.str.injEq, List.cons.injEq, exists_eq_left', exists_eq_left, exists_and_left, and_assoc, upd_same, upd_upd, HO.lst.injEq, HO.tup.injEq, atI_0, atI_1, atI_2, atI_3, set_1, set_2, set_3, CDiv, CPow, CMul, List.length_set, Int.reduceToNat, Int.reduceLE, Int.reduceLT, Int.reducePow, Int.reduceNeg, Nat.reduceAdd, Nat.reduceLT, Nat.reduceLeDiff, Nat.reducePow, Nat.zero_add, or_true, true_or, gt_iff_lt, ge_iff_le, and_true, true_and, decide_eq_true_eq, if_true, Bool.false_eq_true, if_false]
          refine ⟨pt m, rfl, .inl ⟨m, rfl, hm m (List.mem_of_getElem? hm1), fun H2 s2 => ?_⟩⟩
          refine ⟨_, s2 _ _ eD, ?_, c, ?_, same_out (Same.tr s1 s2) hD⟩
          · rw [ni_len, List.length_take]
            exact small1000 (by omega)
          · rw [ni_snoc, take_s hm1]
        · rw [List.map_append, List.getElem?_append_right (by rw [List.length_map, List.length_map]; omega), List.length_map, List.length_map, c, Nat.sub_self] at hx
          cases hx
          simp only [gStr2, gSeqH, tDc_c, tDGet, sDPut, rCat, tBreak, rExtend, tSeq, tAsg, tRet, tRetN, tDrop, tIfS, tNext, tNever, tOp, tUn, tVar, tC, rI0, rI, rU, tTest, tIf, tB, tAnd, tOr, tNot, tAndV, tOrV, tNotV, gName, gSub, gTupH, gCons, gNil, tYes, tCons, tNil, tLst, tTup, tCB, tCall, tMeth, tMake, tFld, sFld, tFor_c, tLc_c, iRng1, iList, iTup, iStr, iSeqB, iEnumB, tM1, tSl, tPart, tNoPart, rSlS, rIxS, tBM, rAppend, tIf, rEq, rNe, scal, hIx, hIxT, hIxB, hSet, hInt, hIntB, hLen, hLenT, hLenB, L2.start, wipe, List.map_cons, List.map_nil, List.set_cons_zero, List.set_cons_succ, List.set_nil, List.length_cons, List.length_nil, List.length_map, List.cons_append, List.nil_append, List.append_nil, List.replicate, List.getElem?_cons_zero, List.getElem?_cons_succ, Option.some.injEq, V.int.injEq, V.bl.injEq, V.ref.injEq, V.str.injEq, List.cons.injEq, exists_eq_left', exists_eq_left, exists_and_left, and_assoc, upd_same, upd_upd, HO.lst.injEq, HO.tup.injEq, atI_0, atI_1, atI_2, atI_3, set_1, set_2, set_3, CDiv, CPow, CMul, List.length_set, Int.reduceToNat, Int.reduceLE, Int.reduceLT, Int.reducePow, Int.reduceNeg, Nat.reduceAdd, Nat.reduceLT, Nat.reduceLeDiff, Nat.reducePow, Nat.zero_add, or_true, true_or, gt_iff_lt, ge_iff_le, and_true, true_and, decide_eq_true_eq, if_true, Bool.false_eq_true, if_false]
          exact ⟨x0, rfl, .inr ⟨hb, fun d H2 z => q d H2 ⟨Same.tr s1 z.1, z.2⟩⟩⟩
      · rintro D H' hD ⟨hi, eD, s1⟩
        exfalso
        rw [List.length_map, List.length_append, List.length_map, List.length_cons] at hi
        omega
end
end AK
set_option Elab.async false
set_option linter.all false
set_option maxRecDepth 100000
set_option maxHeartbeats 4000000
namespace AK
open PySem PySem.Spec PyProof.Rows L2
section
variable {P : Program} {w : World} {K : PySem.W.Frag} {mg : Str → Option Value} {base : Heap} {a : Ads}
theorem psmap (ms : List Nat) : (ms.map pt).map V.str = ps ms := by
  rw [ps, List.map_map]
  rfl
def spRankR (CB : Addr) : Sp := fun vs H Q E => ∃ (p : Addr) (L : List Str), vs = [.ref p] ∧ RowAt H p (L.map V.str) ∧ L.length ≤ 900 ∧
  ((∃ ms : List Nat, L = ms.map pt ∧ (∀ m ∈ ms, m < 256) ∧ ∀ H', Same H H' → Q (.int (rank ms : Nat)) H') ∨ BadAt CB H E L)
theorem ok_message_rank (T : Txt K mg a) : FnOk P w K mg base (L2.CX P w) 5 a.a_message_rank a.d_message_rank ["messages"] (spRankR a.c_BadParity) := by
  have G_message_masks := ok_message_masks (P := P) (w := w) (base := base) T
  have G_spanned := ok_spanned (P := P) (w := w) (base := base) T
  refine T.F_message_rank.okX sc_message_rank (fun vs H Q E h => ?_) (fun cdv A outer s H vs Q E hr h => ?_)
  · obtain ⟨_, _, rfl, _⟩ := h
    rfl
  · obtain ⟨p, L, rfl, hS, hl, q⟩ := h
    refine ⟨_, (pss_one (ps_ret (pe_callB callLen (by rfl) T.z_len PySem.boot_len (pa_cons (pe_call G_spanned (hr.mono (by first | decide | exact Nat.le_refl _ | omega)) (by rfl) T.g_spanned T.k_spanned T.b1_spanned.choose_spec.2 T.b1_spanned.choose_spec.1 pass0 (pa_cons (pe_call G_message_masks (hr.mono (by first | decide | exact Nat.le_refl _ | omega)) (by rfl) T.g_message_masks T.F_message_masks.kp T.b_message_masks .nil (passes_call (E := E) (takes_of rfl rfl rfl rfl) (fun _ _ _ _ z => z)) (pa_cons (pv 0) pa_nil)) pa_nil)) pa_nil)))), ?_⟩
    simp only [gStr2, gSeqH, tDc_c, tDGet, sDPut, rCat, tBreak, rExtend, tSeq, tAsg, tRet, tRetN, tDrop, tIfS, tNext, tNever, tOp, tUn, tVar, tC, rI0, rI, rU, tTest, tIf, tB, tAnd, tOr, tNot, tAndV, tOrV, tNotV, gName, gSub, gTupH, gCons, gNil, tYes, tCons, tNil, tLst, tTup, tCB, tCall, tMeth, tMake, tFld, sFld, tFor_c, tLc_c, iRng1, iList, iTup, iStr, iSeqB, iEnumB, tM1, tSl, tPart, tNoPart, rSlS, rIxS, tBM, rAppend, tIf, rEq, rNe, scal, hIx, hIxT, hIxB, hSet, hInt, hIntB, hLen, hLenT, hLenB, L2.start, wipe, List.map_cons, List.map_nil, List.set_cons_zero, List.set_cons_succ, List.set_nil, List.length_cons, List.length_nil, List.length_map, List.cons_append, List.nil_append, List.append_nil, List.replicate, List.getElem?_cons_zero, List.getElem?_cons_succ, Option.some.injEq, V.int.injEq, V.bl.injEq, V.ref.injEq, V.str.injEq, List.cons.injEq, exists_eq_left', exists_eq_left, exists_and_left, and_assoc, upd_same, upd_upd, HO.lst.injEq, HO.tup.injEq, atI_0, atI_1, atI_2, atI_3, set_1, set_2, set_3, CDiv, CPow, CMul, List.length_set, Int.reduceToNat, Int.reduceLE, Int.reduceLT, Int.reducePow, Int.reduceNeg, Nat.reduceAdd, Nat.reduceLT, Nat.reduceLeDiff, Nat.reducePow, Nat.zero_add, or_true, true_or, gt_iff_lt, ge_iff_le, and_true, true_and, decide_eq_true_eq, if_true, Bool.false_eq_true, if_false]
    refine ⟨p, L, rfl, hS, hl, ?_⟩
    rcases q with ⟨ms, rfl, hm, q⟩ | hb
    · rw [List.length_map] at hl
      refine .inl ⟨ms, rfl, hm, fun D H1 s1 _ e1 => ?_⟩
      refine ⟨D, _, ms, [], rfl, SqL.of e1, .inr (T.e_spanned _), by simpa using hl, fun D2 H2 s2 _ e2 => ?_⟩
      refine ⟨D2, rfl, _, e2, ?_⟩
      rw [ni_len]
      exact q H2 (Same.tr s1 s2)
    · exact .inr hb
def spDerR (CB : Addr) : Sp := fun vs H Q E => ∃ (p : Addr) (L : List Str) (x : Str), vs = [.ref p, .str x] ∧ RowAt H p (L.map V.str) ∧ L.length ≤ 900 ∧
  ((∃ (ms : List Nat) (m : Nat), L = ms.map pt ∧ x = pt m ∧ (∀ m ∈ ms, m < 256) ∧ m < 256 ∧ ∀ H', Same H H' → Q (.bl (decide (rem (spn ms []) m = 0))) H') ∨ BadAt CB H E (L ++ [x]))
theorem BadAt.split {CB : Addr} {H : Hp} {E : XK} {L : List Str} {x : Str} (h : BadAt CB H E (L ++ [x])) : BadAt CB H E L ∨ ∃ ms : List Nat, L = ms.map pt ∧ (∀ m ∈ ms, m < 256) ∧ asc A8 (lt x) = false ∧ ∀ d H', OneAt "text" H H' d (.str x) → E (.ref CB) (some d) H' := by
  obtain ⟨ms, y, post, e, hm, hb, q⟩ := h
  rcases List.eq_nil_or_concat post with rfl | ⟨p2, z, rfl⟩
  · have z := List.append_inj' e rfl
    obtain ⟨z1, z2⟩ := z
    cases z2
    exact .inr ⟨ms, z1, hm, hb, q⟩
  · rw [List.concat_eq_append, show ms.map pt ++ y :: (p2 ++ [z]) = (ms.map pt ++ y :: p2) ++ [z] from by simp] at e
    have z1 := (List.append_inj' e rfl).1
    exact .inl ⟨ms, y, p2, z1, hm, hb, q⟩
theorem ok_is_derived (T : Txt K mg a) : FnOk P w K mg base (L2.CX P w) 5 a.a_is_derived a.d_is_derived ["messages", "parity"] (spDerR a.c_BadParity) := by
  have G_message_masks := ok_message_masks (P := P) (w := w) (base := base) T
  have G_spanned := ok_spanned (P := P) (w := w) (base := base) T
  have G_parity_mask := ok_parity_mask (P := P) (w := w) (base := base) T
  have G_remainder := ok_remainder (P := P) (w := w) (base := base) T
  refine T.F_is_derived.okX sc_is_derived (fun vs H Q E h => ?_) (fun cdv A outer s H vs Q E hr h => ?_)
  · obtain ⟨_, _, _, rfl, _⟩ := h
    rfl
  · obtain ⟨p, L, x, rfl, hS, hl, q⟩ := h
    refine ⟨_, (pss_cons (ps_set (i := 2) sc_is_derived.nd rfl (.inl rfl) (pe_call G_spanned (hr.mono (by first | decide | exact Nat.le_refl _ | omega)) (by rfl) T.g_spanned T.k_spanned T.b1_spanned.choose_spec.2 T.b1_spanned.choose_spec.1 pass0 (pa_cons (pe_call G_message_masks (hr.mono (by first | decide | exact Nat.le_refl _ | omega)) (by rfl) T.g_message_masks T.F_message_masks.kp T.b_message_masks .nil (passes_call (E := E) (takes_of rfl rfl rfl rfl) (fun _ _ _ _ z => z)) (pa_cons (pv 0) pa_nil)) pa_nil)))
      (pss_one (ps_ret (pe_cmpR op_eq (pe_call G_remainder (hr.mono (by first | decide | exact Nat.le_refl _ | omega)) (by rfl) T.g_remainder T.F_remainder.kp T.b_remainder .nil pass0 (pa_cons (pv 2) (pa_cons (pe_call G_parity_mask (hr.mono (by first | decide | exact Nat.le_refl _ | omega)) (by rfl) T.g_parity_mask T.F_parity_mask.kp T.b_parity_mask .nil (passes_call (E := E) (takes_of rfl rfl rfl rfl) (fun _ _ _ _ z => z)) (pa_cons (pv 1) pa_nil)) pa_nil))) pe_int (nomark _))))), ?_⟩
    simp only [gStr2, gSeqH, tDc_c, tDGet, sDPut, rCat, tBreak, rExtend, tSeq, tAsg, tRet, tRetN, tDrop, tIfS, tNext, tNever, tOp, tUn, tVar, tC, rI0, rI, rU, tTest, tIf, tB, tAnd, tOr, tNot, tAndV, tOrV, tNotV, gName, gSub, gTupH, gCons, gNil, tYes, tCons, tNil, tLst, tTup, tCB, tCall, tMeth, tMake, tFld, sFld, tFor_c, tLc_c, iRng1, iList, iTup, iStr, iSeqB, iEnumB, tM1, tSl, tPart, tNoPart, rSlS, rIxS, tBM, rAppend, tIf, rEq, rNe, scal, hIx, hIxT, hIxB, hSet, hInt, hIntB, hLen, hLenT, hLenB, L2.start, wipe, List.map_cons, List.map_nil, List.set_cons_zero, List.set_cons_succ, List.set_nil, List.length_cons, List.length_nil, List.length_map, List.cons_append, List.nil_append, List.append_nil, List.replicate, List.getElem?_cons_zero, List.getElem?_cons_succ, Option.some.injEq, V.int.injEq, V.bl.injEq, V.ref.injEq, V.str.injEq, List.cons.injEq, exists_eq_left', exists_eq_left, exists_and_left, and_assoc, upd_same, upd_upd, HO.lst.injEq, HO.tup.injEq, atI_0, atI_1, atI_2, atI_3, set_1, set_2, set_3, CDiv, CPow, CMul, List.length_set, Int.reduceToNat, Int.reduceLE, Int.reduceLT, Int.reducePow, Int.reduceNeg, Nat.reduceAdd, Nat.reduceLT, Nat.reduceLeDiff, Nat.reducePow, Nat.zero_add, or_true, true_or, gt_iff_lt, ge_iff_le, and_true, true_and, decide_eq_true_eq, if_true, Bool.false_eq_true, if_false]
    refine ⟨p, L, rfl, hS, hl, ?_⟩
    rcases q with ⟨ms, m, rfl, rfl, hm, hm1, q⟩ | hb
    · rw [List.length_map] at hl
      refine .inl ⟨ms, rfl, hm, fun D H1 s1 _ e1 => ?_⟩
      refine ⟨D, _, ms, [], rfl, SqL.of e1, .inr (T.e_spanned _), by simpa using hl, fun D2 H2 s2 _ e2 => ?_⟩
      refine ⟨_, rfl, .inl ⟨m, rfl, hm1, fun H3 s3 => ?_⟩⟩
      refine ⟨D2, _, m, rfl, SqL.of (s3 _ _ e2), rfl, ?_⟩
      have z := q H3 (Same.tr (Same.tr s1 s2) s3)
      rw [int0_eq]
      exact z
    · rcases hb.split with hb | ⟨ms, rfl, hm, hb, q⟩
      · exact .inr hb
      · rw [List.length_map] at hl
        refine .inl ⟨ms, rfl, hm, fun D H1 s1 _ e1 => ?_⟩
        refine ⟨D, _, ms, [], rfl, SqL.of e1, .inr (T.e_spanned _), by simpa using hl, fun D2 H2 s2 _ e2 => ?_⟩
        exact ⟨_, rfl, .inr ⟨hb, fun d H3 z => q d H3 ⟨Same.tr (Same.tr s1 s2) z.1, z.2⟩⟩⟩
def spBasR (CB : Addr) : Sp := fun vs H Q E => ∃ (p : Addr) (L : List Str), vs = [.ref p] ∧ RowAt H p (L.map V.str) ∧ L.length ≤ 900 ∧
  ((∃ ms : List Nat, L = ms.map pt ∧ (∀ m ∈ ms, m < 256) ∧ ∀ D H', Same H H' → H' D = some (.tup (ni (bas ms [] 0))) → Q (.ref D) H') ∨ BadAt CB H E L)
theorem ok_basis (T : Txt K mg a) : FnOk P w K mg base (L2.CX P w) 5 a.a_basis a.d_basis ["messages"] (spBasR a.c_BadParity) := by
  have G_message_masks := ok_message_masks (P := P) (w := w) (base := base) T
  have G_basis_indices := ok_basis_indices (P := P) (w := w) (base := base) T
  refine T.F_basis.okX sc_basis (fun vs H Q E h => ?_) (fun cdv A outer s H vs Q E hr h => ?_)
  · obtain ⟨_, _, rfl, _⟩ := h
    rfl
  · obtain ⟨p, L, rfl, hS, hl, q⟩ := h
    refine ⟨_, (pss_one (ps_ret (pe_callTy callTupB (by rfl) T.z_tuple (by decide +kernel) (pa_cons (pe_call G_basis_indices (hr.mono (by first | decide | exact Nat.le_refl _ | omega)) (by rfl) T.g_basis_indices T.F_basis_indices.kp T.b_basis_indices .nil pass0 (pa_cons (pe_call G_message_masks (hr.mono (by first | decide | exact Nat.le_refl _ | omega)) (by rfl) T.g_message_masks T.F_message_masks.kp T.b_message_masks .nil (passes_call (E := E) (takes_of rfl rfl rfl rfl) (fun _ _ _ _ z => z)) (pa_cons (pv 0) pa_nil)) pa_nil)) pa_nil)))), ?_⟩
    simp only [gStr2, gSeqH, tDc_c, tDGet, sDPut, rCat, tBreak, rExtend, tSeq, tAsg, tRet, tRetN, tDrop, tIfS, tNext, tNever, tOp, tUn, tVar, tC, rI0, rI, rU, tTest, tIf, tB, tAnd, tOr, tNot, tAndV, tOrV, tNotV, gName, gSub, gTupH, gCons, gNil, tYes, tCons, tNil, tLst, tTup, tCB, tCall, tMeth, tMake, tFld, sFld, tFor_c, tLc_c, iRng1, iList, iTup, iStr, iSeqB, iEnumB, tM1, tSl, tPart, tNoPart, rSlS, rIxS, tBM, rAppend, tIf, rEq, rNe, scal, hIx, hIxT, hIxB, hSet, hInt, hIntB, hLen, hLenT, hLenB, L2.start, wipe, List.map_cons, List.map_nil, List.set_cons_zero, List.set_cons_succ, List.set_nil, List.length_cons, List.length_nil, List.length_map, List.cons_append, List.nil_append, List.append_nil, List.replicate, List.getElem?_cons_zero, List.getElem?_cons_succ, Option.some.injEq, V.int.injEq, V.bl.injEq, V.ref.injEq, V.str.injEq, List.cons.injEq, exists_eq_left', exists_eq_left, exists_and_left, and_assoc, upd_same, upd_upd, HO.lst.injEq, HO.tup.injEq, atI_0, atI_1, atI_2, atI_3, set_1, set_2, set_3, CDiv, CPow, CMul, List.length_set, Int.reduceToNat, Int.reduceLE, Int.reduceLT, Int.reducePow, Int.reduceNeg, Nat.reduceAdd, Nat.reduceLT, Nat.reduceLeDiff, Nat.reducePow, Nat.zero_add, or_true, true_or, gt_iff_lt, ge_iff_le, and_true, true_and, decide_eq_true_eq, if_true, Bool.false_eq_true, if_false]
    refine ⟨p, L, rfl, hS, hl, ?_⟩
    rcases q with ⟨ms, rfl, hm, q⟩ | hb
    · rw [List.length_map] at hl
      refine .inl ⟨ms, rfl, hm, fun D H1 s1 _ e1 => ?_⟩
      refine ⟨D, ms, rfl, SqL.of e1, hl, fun D2 H2 s2 _ e2 => ?_⟩
      exact ⟨D2, _, rfl, .inl e2, fun t H3 s3 _ e3 => q t H3 (Same.tr (Same.tr s1 s2) s3) e3⟩
    · exact .inr hb
/-! ### what refuses -/
def spBad1 (CB : Addr) : Sp := fun vs H _ E => ∃ (p : Addr) (L : List Str), vs = [.ref p] ∧ RowAt H p (L.map V.str) ∧ L.length ≤ 900 ∧ BadAt CB H E L
theorem ok_redundant (T : Txt K mg a) : FnOk P w K mg base (L2.CX P w) 5 a.a_redundant a.d_redundant ["messages"] (spBad1 a.c_BadParity) := by
  have G_message_masks := ok_message_masks (P := P) (w := w) (base := base) T
  refine T.F_redundant.okX sc_redundant (fun vs H Q E h => ?_) (fun cdv A outer s H vs Q E hr h => ?_)
  · obtain ⟨_, _, rfl, _⟩ := h
    rfl
  · obtain ⟨p, L, rfl, hS, hl, hb⟩ := h
    refine ⟨_, (pss_cons (ps_set (i := 1) sc_redundant.nd rfl (.inr rfl) (pe_call G_message_masks (hr.mono (by first | decide | exact Nat.le_refl _ | omega)) (by rfl) T.g_message_masks T.F_message_masks.kp T.b_message_masks .nil (passes_call (E := E) (takes_of rfl rfl rfl rfl) (fun _ _ _ _ z => z)) (pa_cons (pv 0) pa_nil)))
      pss_never), ?_⟩
    simp only [gStr2, gSeqH, tDc_c, tDGet, sDPut, rCat, tBreak, rExtend, tSeq, tAsg, tRet, tRetN, tDrop, tIfS, tNext, tNever, tOp, tUn, tVar, tC, rI0, rI, rU, tTest, tIf, tB, tAnd, tOr, tNot, tAndV, tOrV, tNotV, gName, gSub, gTupH, gCons, gNil, tYes, tCons, tNil, tLst, tTup, tCB, tCall, tMeth, tMake, tFld, sFld, tFor_c, tLc_c, iRng1, iList, iTup, iStr, iSeqB, iEnumB, tM1, tSl, tPart, tNoPart, rSlS, rIxS, tBM, rAppend, tIf, rEq, rNe, scal, hIx, hIxT, hIxB, hSet, hInt, hIntB, hLen, hLenT, hLenB, L2.start, wipe, List.map_cons, List.map_nil, List.set_cons_zero, List.set_cons_succ, List.set_nil, List.length_cons, List.length_nil, List.length_map, List.cons_append, List.nil_append, List.append_nil, List.replicate, List.getElem?_cons_zero, List.getElem?_cons_succ, Option.some.injEq, V.int.injEq, V.bl.injEq, V.ref.injEq, V.str.injEq, List.cons.injEq, exists_eq_left', exists_eq_left, exists_and_left, and_assoc, upd_same, upd_upd, HO.lst.injEq, HO.tup.injEq, atI_0, atI_1, atI_2, atI_3, set_1, set_2, set_3, CDiv, CPow, CMul, List.length_set, Int.reduceToNat, Int.reduceLE, Int.reduceLT, Int.reducePow, Int.reduceNeg, Nat.reduceAdd, Nat.reduceLT, Nat.reduceLeDiff, Nat.reducePow, Nat.zero_add, or_true, true_or, gt_iff_lt, ge_iff_le, and_true, true_and, decide_eq_true_eq, if_true, Bool.false_eq_true, if_false]
    exact ⟨p, L, rfl, hS, hl, .inr hb⟩
def spBad2 (CB : Addr) : Sp := fun vs H _ E => ∃ (p : Addr) (L : List Str) (x : Str), vs = [.ref p, .str x] ∧ RowAt H p (L.map V.str) ∧ L.length ≤ 900 ∧ BadAt CB H E (L ++ [x])
theorem ok_combination (T : Txt K mg a) : FnOk P w K mg base (L2.CX P w) 5 a.a_combination a.d_combination ["messages", "parity"] (spBad2 a.c_BadParity) := by
  have G_message_masks := ok_message_masks (P := P) (w := w) (base := base) T
  have G_parity_mask := ok_parity_mask (P := P) (w := w) (base := base) T
  refine T.F_combination.okX sc_combination (fun vs H Q E h => ?_) (fun cdv A outer s H vs Q E hr h => ?_)
  · obtain ⟨_, _, _, rfl, _⟩ := h
    rfl
  · obtain ⟨p, L, x, rfl, hS, hl, hb⟩ := h
    refine ⟨_, (pss_cons (ps_set (i := 2) sc_combination.nd rfl (.inl rfl) (pe_call G_message_masks (hr.mono (by first | decide | exact Nat.le_refl _ | omega)) (by rfl) T.g_message_masks T.F_message_masks.kp T.b_message_masks .nil (passes_call (E := E) (takes_of rfl rfl rfl rfl) (fun _ _ _ _ z => z)) (pa_cons (pv 0) pa_nil)))
      (pss_cons (ps_set (i := 3) sc_combination.nd rfl (.inl rfl) (pe_call G_parity_mask (hr.mono (by first | decide | exact Nat.le_refl _ | omega)) (by rfl) T.g_parity_mask T.F_parity_mask.kp T.b_parity_mask .nil (passes_call (E := E) (takes_of rfl rfl rfl rfl) (fun _ _ _ _ z => z)) (pa_cons (pv 1) pa_nil)))
      pss_never)), ?_⟩
    simp only [gStr2, gSeqH, tDc_c, tDGet, sDPut, rCat, tBreak, rExtend, tSeq, tAsg, tRet, tRetN, tDrop, tIfS, tNext, tNever, tOp, tUn, tVar, tC, rI0, rI, rU, tTest, tIf, tB, tAnd, tOr, tNot, tAndV, tOrV, tNotV, gName, gSub, gTupH, gCons, gNil, tYes, tCons, tNil, tLst, tTup, tCB, tCall, tMeth, tMake, tFld, sFld, tFor_c, tLc_c, iRng1, iList, iTup, iStr, iSeqB, iEnumB, tM1, tSl, tPart, tNoPart, rSlS, rIxS, tBM, rAppend, tIf, rEq, rNe, scal, hIx, hIxT, hIxB, hSet, hInt, hIntB, hLen, hLenT, hLenB, L2.start, wipe, List.map_cons, List.map_nil, List.set_cons_zero, List.set_cons_succ, List.set_nil, List.length_cons, List.length_nil, List.length_map, List.cons_append, List.nil_append, List.append_nil, List.replicate, List.getElem?_cons_zero, List.getElem?_cons_succ, Option.some.injEq, V.int.injEq, V.bl.injEq, V.ref.injEq, V.str.injEq, List.cons.injEq, exists_eq_left', exists_eq_left, exists_and_left, and_assoc, upd_same, upd_upd, HO.lst.injEq, HO.tup.injEq, atI_0, atI_1, atI_2, atI_3, set_1, set_2, set_3, CDiv, CPow, CMul, List.length_set, Int.reduceToNat, Int.reduceLE, Int.reduceLT, Int.reducePow, Int.reduceNeg, Nat.reduceAdd, Nat.reduceLT, Nat.reduceLeDiff, Nat.reducePow, Nat.zero_add, or_true, true_or, gt_iff_lt, ge_iff_le, and_true, true_and, decide_eq_true_eq, if_true, Bool.false_eq_true, if_false]
    refine ⟨p, L, rfl, hS, hl, ?_⟩
    rcases hb.split with hb | ⟨ms, rfl, hm, hb, q⟩
    · exact .inr hb
    · exact .inl ⟨ms, rfl, hm, fun D H1 s1 _ e1 => ⟨_, rfl, .inr ⟨hb, fun d H3 z => q d H3 ⟨Same.tr s1 z.1, z.2⟩⟩⟩⟩
theorem ok_odd_ones (T : Txt K mg a) : FnOk P w K mg base (L2.CX P w) 5 a.a_odd_ones a.d_odd_ones ["messages", "assignment"] (spBad2 a.c_BadParity) := by
  have G_message_masks := ok_message_masks (P := P) (w := w) (base := base) T
  have G_parity_mask := ok_parity_mask (P := P) (w := w) (base := base) T
  refine T.F_odd_ones.okX sc_odd_ones (fun vs H Q E h => ?_) (fun cdv A outer s H vs Q E hr h => ?_)
  · obtain ⟨_, _, _, rfl, _⟩ := h
    rfl
  · obtain ⟨p, L, x, rfl, hS, hl, hb⟩ := h
    refine ⟨_, (pss_cons (ps_set (i := 2) sc_odd_ones.nd rfl (.inl rfl) (pe_call G_message_masks (hr.mono (by first | decide | exact Nat.le_refl _ | omega)) (by rfl) T.g_message_masks T.F_message_masks.kp T.b_message_masks .nil (passes_call (E := E) (takes_of rfl rfl rfl rfl) (fun _ _ _ _ z => z)) (pa_cons (pv 0) pa_nil)))
      (pss_cons (ps_set (i := 3) sc_odd_ones.nd rfl (.inr rfl) (pe_call G_parity_mask (hr.mono (by first | decide | exact Nat.le_refl _ | omega)) (by rfl) T.g_parity_mask T.F_parity_mask.kp T.b_parity_mask .nil (passes_call (E := E) (takes_of rfl rfl rfl rfl) (fun _ _ _ _ z => z)) (pa_cons (pv 1) pa_nil)))
      pss_never)), ?_⟩
    simp only [gStr2, gSeqH, tDc_c, tDGet, sDPut, rCat, tBreak, rExtend, tSeq, tAsg, tRet, tRetN, tDrop, tIfS, tNext, tNever, tOp, tUn, tVar, tC, rI0, rI, rU, tTest, tIf, tB, tAnd, tOr, tNot, tAndV, tOrV, tNotV, gName, gSub, gTupH, gCons, gNil, tYes, tCons, tNil, tLst, tTup, tCB, tCall, tMeth, tMake, tFld, sFld, tFor_c, tLc_c, iRng1, iList, iTup, iStr, iSeqB, iEnumB, tM1, tSl, tPart, tNoPart, rSlS, rIxS, tBM, rAppend, tIf, rEq, rNe, scal, hIx, hIxT, hIxB, hSet, hInt, hIntB, hLen, hLenT, hLenB, L2.start, wipe, List.map_cons, List.map_nil, List.set_cons_zero, List.set_cons_succ, List.set_nil, List.length_cons, List.length_nil, List.length_map, List.cons_append, List.nil_append, List.append_nil, List.replicate, List.getElem?_cons_zero, List.getElem?_cons_succ, Option.some.injEq, V.int.injEq, V.bl.injEq, V.ref.injEq, V.str.injEq, List.cons.injEq, exists_eq_left', exists_eq_left, exists_and_left, and_assoc, upd_same, upd_upd, HO.lst.injEq, HO.tup.injEq, atI_0, atI_1, atI_2, atI_3, set_1, set_2, set_3, CDiv, CPow, CMul, List.length_set, Int.reduceToNat, Int.reduceLE, Int.reduceLT, Int.reducePow, Int.reduceNeg, Nat.reduceAdd, Nat.reduceLT, Nat.reduceLeDiff, Nat.reducePow, Nat.zero_add, or_true, true_or, gt_iff_lt, ge_iff_le, and_true, true_and, decide_eq_true_eq, if_true, Bool.false_eq_true, if_false]
    refine ⟨p, L, rfl, hS, hl, ?_⟩
    rcases hb.split with hb | ⟨ms, rfl, hm, hb, q⟩
    · exact .inr hb
    · exact .inl ⟨ms, rfl, hm, fun D H1 s1 _ e1 => ⟨_, rfl, .inr ⟨hb, fun d H3 z => q d H3 ⟨Same.tr s1 z.1, z.2⟩⟩⟩⟩
def spBad3 (CB : Addr) : Sp := fun vs H _ E => ∃ (v : Int) (p : Addr) (L : List Str) (x : Str), vs = [.int v, .ref p, .str x] ∧ RowAt H p (L.map V.str) ∧ L.length ≤ 900 ∧ BadAt CB H E (L ++ [x])
theorem ok_separating (T : Txt K mg a) : FnOk P w K mg base (L2.CX P w) 5 a.a_separating a.d_separating ["variables", "messages", "parity"] (spBad3 a.c_BadParity) := by
  have G_message_masks := ok_message_masks (P := P) (w := w) (base := base) T
  have G_parity_mask := ok_parity_mask (P := P) (w := w) (base := base) T
  have G_spanned := ok_spanned (P := P) (w := w) (base := base) T
  refine T.F_separating.okX sc_separating (fun vs H Q E h => ?_) (fun cdv A outer s H vs Q E hr h => ?_)
  · obtain ⟨_, _, _, _, rfl, _⟩ := h
    rfl
  · obtain ⟨v, p, L, x, rfl, hS, hl, hb⟩ := h
    refine ⟨_, (pss_cons (ps_set (i := 3) sc_separating.nd rfl (.inl rfl) (pe_call G_spanned (hr.mono (by first | decide | exact Nat.le_refl _ | omega)) (by rfl) T.g_spanned T.k_spanned T.b1_spanned.choose_spec.2 T.b1_spanned.choose_spec.1 pass0 (pa_cons (pe_call G_message_masks (hr.mono (by first | decide | exact Nat.le_refl _ | omega)) (by rfl) T.g_message_masks T.F_message_masks.kp T.b_message_masks .nil (passes_call (E := E) (takes_of rfl rfl rfl rfl) (fun _ _ _ _ z => z)) (pa_cons (pv 1) pa_nil)) pa_nil)))
      (pss_cons (ps_set (i := 4) sc_separating.nd rfl (.inl rfl) (pe_call G_parity_mask (hr.mono (by first | decide | exact Nat.le_refl _ | omega)) (by rfl) T.g_parity_mask T.F_parity_mask.kp T.b_parity_mask .nil (passes_call (E := E) (takes_of rfl rfl rfl rfl) (fun _ _ _ _ z => z)) (pa_cons (pv 2) pa_nil)))
      pss_never)), ?_⟩
    simp only [gStr2, gSeqH, tDc_c, tDGet, sDPut, rCat, tBreak, rExtend, tSeq, tAsg, tRet, tRetN, tDrop, tIfS, tNext, tNever, tOp, tUn, tVar, tC, rI0, rI, rU, tTest, tIf, tB, tAnd, tOr, tNot, tAndV, tOrV, tNotV, gName, gSub, gTupH, gCons, gNil, tYes, tCons, tNil, tLst, tTup, tCB, tCall, tMeth, tMake, tFld, sFld, tFor_c, tLc_c, iRng1, iList, iTup, iStr, iSeqB, iEnumB, tM1, tSl, tPart, tNoPart, rSlS, rIxS, tBM, rAppend, tIf, rEq, rNe, scal, hIx, hIxT, hIxB, hSet, hInt, hIntB, hLen, hLenT, hLenB, L2.start, wipe, List.map_cons, List.map_nil, List.set_cons_zero, List.set_cons_succ, List.set_nil, List.length_cons, List.length_nil, List.length_map, List.cons_append, List.nil_append, List.append_nil, List.replicate, List.getElem?_cons_zero, List.getElem?_cons_succ, Option.some.injEq, V.int.injEq, V.bl.injEq, V.ref.injEq, V.str.injEq, List.cons.injEq, exists_eq_left', exists_eq_left, exists_and_left, and_assoc, upd_same, upd_upd, HO.lst.injEq, HO.tup.injEq, atI_0, atI_1, atI_2, atI_3, set_1, set_2, set_3, CDiv, CPow, CMul, List.length_set, Int.reduceToNat, Int.reduceLE, Int.reduceLT, Int.reducePow, Int.reduceNeg, Nat.reduceAdd, Nat.reduceLT, Nat.reduceLeDiff, Nat.reducePow, Nat.zero_add, or_true, true_or, gt_iff_lt, ge_iff_le, and_true, true_and, decide_eq_true_eq, if_true, Bool.false_eq_true, if_false]
    refine ⟨p, L, rfl, hS, hl, ?_⟩
    rcases hb.split with hb | ⟨ms, rfl, hm, hb, q⟩
    · exact .inr hb
    · rw [List.length_map] at hl
      refine .inl ⟨ms, rfl, hm, fun D H1 s1 _ e1 => ?_⟩
      refine ⟨D, _, ms, [], rfl, SqL.of e1, .inr (T.e_spanned _), by simpa using hl, fun D2 H2 s2 _ e2 => ?_⟩
      exact ⟨_, rfl, .inr ⟨hb, fun d H3 z => q d H3 ⟨Same.tr (Same.tr s1 s2) z.1, z.2⟩⟩⟩
def spBadE (CB : Addr) : Sp := fun vs H _ E => ∃ (p p2 : Addr) (L : List Str) (x : Str), vs = [.ref p, .ref p2] ∧ RowAt H p (L.map V.str) ∧ RowAt H p2 [.str x] ∧ L.length ≤ 900 ∧ BadAt CB H E (L ++ [x])
theorem ok_is_equivalent (T : Txt K mg a) : FnOk P w K mg base (L2.CX P w) 5 a.a_is_equivalent a.d_is_equivalent ["first", "second"] (spBadE a.c_BadParity) := by
  have G_message_masks := ok_message_masks (P := P) (w := w) (base := base) T
  have G_spanned := ok_spanned (P := P) (w := w) (base := base) T
  refine T.F_is_equivalent.okX sc_is_equivalent (fun vs H Q E h => ?_) (fun cdv A outer s H vs Q E hr h => ?_)
  · obtain ⟨_, _, _, _, rfl, _⟩ := h
    rfl
  · obtain ⟨p, p2, L, x, rfl, hS, hS2, hl, hb⟩ := h
    refine ⟨_, (pss_cons (ps_set (i := 2) sc_is_equivalent.nd rfl (.inl rfl) (pe_call G_spanned (hr.mono (by first | decide | exact Nat.le_refl _ | omega)) (by rfl) T.g_spanned T.k_spanned T.b1_spanned.choose_spec.2 T.b1_spanned.choose_spec.1 pass0 (pa_cons (pe_call G_message_masks (hr.mono (by first | decide | exact Nat.le_refl _ | omega)) (by rfl) T.g_message_masks T.F_message_masks.kp T.b_message_masks .nil (passes_call (E := E) (takes_of rfl rfl rfl rfl) (fun _ _ _ _ z => z)) (pa_cons (pv 0) pa_nil)) pa_nil)))
      (pss_cons (ps_set (i := 3) sc_is_equivalent.nd rfl (.inl rfl) (pe_call G_spanned (hr.mono (by first | decide | exact Nat.le_refl _ | omega)) (by rfl) T.g_spanned T.k_spanned T.b1_spanned.choose_spec.2 T.b1_spanned.choose_spec.1 pass0 (pa_cons (pe_call G_message_masks (hr.mono (by first | decide | exact Nat.le_refl _ | omega)) (by rfl) T.g_message_masks T.F_message_masks.kp T.b_message_masks .nil (passes_call (E := E) (takes_of rfl rfl rfl rfl) (fun _ _ _ _ z => z)) (pa_cons (pv 1) pa_nil)) pa_nil)))
      pss_never)), ?_⟩
    simp only [gStr2, gSeqH, tDc_c, tDGet, sDPut, rCat, tBreak, rExtend, tSeq, tAsg, tRet, tRetN, tDrop, tIfS, tNext, tNever, tOp, tUn, tVar, tC, rI0, rI, rU, tTest, tIf, tB, tAnd, tOr, tNot, tAndV, tOrV, tNotV, gName, gSub, gTupH, gCons, gNil, tYes, tCons, tNil, tLst, tTup, tCB, tCall, tMeth, tMake, tFld, sFld, tFor_c, tLc_c, iRng1, iList, iTup, iStr, iSeqB, iEnumB, tM1, tSl, tPart, tNoPart, rSlS, rIxS, tBM, rAppend, tIf, rEq, rNe, scal, hIx, hIxT, hIxB, hSet, hInt, hIntB, hLen, hLenT, hLenB, L2.start, wipe, List.map_cons, List.map_nil, List.set_cons_zero, List.set_cons_succ, List.set_nil, List.length_cons, List.length_nil, List.length_map, List.cons_append, List.nil_append, List.append_nil, List.replicate, List.getElem?_cons_zero, List.getElem?_cons_succ, Option.some.injEq, V.int.injEq, V.bl.injEq, V.ref.injEq, V.str.injEq, List.cons.injEq, exists_eq_left', exists_eq_left, exists_and_left, and_assoc, upd_same, upd_upd, HO.lst.injEq, HO.tup.injEq, atI_0, atI_1, atI_2, atI_3, set_1, set_2, set_3, CDiv, CPow, CMul, List.length_set, Int.reduceToNat, Int.reduceLE, Int.reduceLT, Int.reducePow, Int.reduceNeg, Nat.reduceAdd, Nat.reduceLT, Nat.reduceLeDiff, Nat.reducePow, Nat.zero_add, or_true, true_or, gt_iff_lt, ge_iff_le, and_true, true_and, decide_eq_true_eq, if_true, Bool.false_eq_true, if_false]
    refine ⟨p, L, rfl, hS, hl, ?_⟩
    rcases hb.split with hb | ⟨ms, rfl, hm, hb, q⟩
    · exact .inr hb
    · rw [List.length_map] at hl
      refine .inl ⟨ms, rfl, hm, fun D H1 s1 _ e1 => ?_⟩
      refine ⟨D, _, ms, [], rfl, SqL.of e1, .inr (T.e_spanned _), by simpa using hl, fun D2 H2 s2 _ e2 => ?_⟩
      have s12 := Same.tr s1 s2
      exact ⟨p2, [x], rfl, rowS s12 hS2, (by decide : (1 : Nat) ≤ 900), .inr ⟨[], x, [], rfl, fun m hm => absurd hm List.not_mem_nil, hb, fun d H3 z => q d H3 ⟨Same.tr s12 z.1, z.2⟩⟩⟩
def spBad4 (CB : Addr) : Sp := fun vs H _ E => ∃ (v : Int) (p p2 : Addr) (L : List Str), vs = [.int v, .ref p, .ref p2] ∧ RowAt H p (L.map V.str) ∧ L.length ≤ 900 ∧ BadAt CB H E L
theorem ok_assignments (T : Txt K mg a) : FnOk P w K mg base (L2.CX P w) 5 a.a_assignments a.d_assignments ["variables", "messages", "told"] (spBad4 a.c_BadParity) := by
  have G_message_masks := ok_message_masks (P := P) (w := w) (base := base) T
  refine T.F_assignments.okX sc_assignments (fun vs H Q E h => ?_) (fun cdv A outer s H vs Q E hr h => ?_)
  · obtain ⟨_, _, _, _, rfl, _⟩ := h
    rfl
  · obtain ⟨v, p, p2, L, rfl, hS, hl, hb⟩ := h
    refine ⟨_, (pss_cons (ps_set (i := 3) sc_assignments.nd rfl (.inr rfl) pe_dnewK)
      (pss_cons (ps_for (passes_of rfl) rfl (pi_zipB (by rfl) T.z_zip (pa_cons (pe_call G_message_masks (hr.mono (by first | decide | exact Nat.le_refl _ | omega)) (by rfl) T.g_message_masks T.F_message_masks.kp T.b_message_masks .nil (passes_call (E := E) (takes_of rfl rfl rfl rfl) (fun _ _ _ _ z => z)) (pa_cons (pv 1) pa_nil)) (pa_cons (pv 2) pa_nil))) (pg_tupH (n := 2) (by rfl) (pgs_cons (pg_name (i := 4) sc_assignments.nd rfl (.inl rfl)) (pgs_cons (pg_name (i := 5) sc_assignments.nd rfl (.inl rfl)) pgs_nil)))
      (pss_one (ps_if (pt_cmpR op_ne (pe_dsetd (pv 3) (pv 4) (pv 5) ⟨rfl, rfl, rfl, rfl⟩) (pv 5) (nomark _))
      (pss_one (ps_ret (pe_tup (pa_cons pe_int (pa_cons pe_non pa_nil)))))
      pss_nil)))
      pss_never)), ?_⟩
    simp only [gStr2, gSeqH, tDc_c, tDGet, sDPut, rCat, tBreak, rExtend, tSeq, tAsg, tRet, tRetN, tDrop, tIfS, tNext, tNever, tOp, tUn, tVar, tC, rI0, rI, rU, tTest, tIf, tB, tAnd, tOr, tNot, tAndV, tOrV, tNotV, gName, gSub, gTupH, gCons, gNil, tYes, tCons, tNil, tLst, tTup, tCB, tCall, tMeth, tMake, tFld, sFld, tFor_c, tLc_c, iRng1, iList, iTup, iStr, iSeqB, iEnumB, tM1, tSl, tPart, tNoPart, rSlS, rIxS, tBM, rAppend, tIf, rEq, rNe, scal, hIx, hIxT, hIxB, hSet, hInt, hIntB, hLen, hLenT, hLenB, L2.start, wipe, List.map_cons, List.map_nil, List.set_cons_zero, List.set_cons_succ, List.set_nil, List.length_cons, List.length_nil, List.length_map, List.cons_append, List.nil_append, List.append_nil, List.replicate, List.getElem?_cons_zero, List.getElem?_cons_succ, Option.some.injEq, V.int.injEq, V.bl.injEq, V.ref.injEq, V.str.injEq, List.cons.injEq, exists_eq_left', exists_eq_left, exists_and_left, and_assoc, upd_same, upd_upd, HO.lst.injEq, HO.tup.injEq, atI_0, atI_1, atI_2, atI_3, set_1, set_2, set_3, CDiv, CPow, CMul, List.length_set, Int.reduceToNat, Int.reduceLE, Int.reduceLT, Int.reducePow, Int.reduceNeg, Nat.reduceAdd, Nat.reduceLT, Nat.reduceLeDiff, Nat.reducePow, Nat.zero_add, or_true, true_or, gt_iff_lt, ge_iff_le, and_true, true_and, decide_eq_true_eq, if_true, Bool.false_eq_true, if_false]
    intro d0 hd0
    have s0 := same_new (o := .dK []) hd0
    unfold iZipB
    simp only [gStr2, gSeqH, tDc_c, tDGet, sDPut, rCat, tBreak, rExtend, tSeq, tAsg, tRet, tRetN, tDrop, tIfS, tNext, tNever, tOp, tUn, tVar, tC, rI0, rI, rU, tTest, tIf, tB, tAnd, tOr, tNot, tAndV, tOrV, tNotV, gName, gSub, gTupH, gCons, gNil, tYes, tCons, tNil, tLst, tTup, tCB, tCall, tMeth, tMake, tFld, sFld, tFor_c, tLc_c, iRng1, iList, iTup, iStr, iSeqB, iEnumB, tM1, tSl, tPart, tNoPart, rSlS, rIxS, tBM, rAppend, tIf, rEq, rNe, scal, hIx, hIxT, hIxB, hSet, hInt, hIntB, hLen, hLenT, hLenB, L2.start, wipe, List.map_cons, List.map_nil, List.set_cons_zero, List.set_cons_succ, List.set_nil, List.length_cons, List.length_nil, List.length_map, List.cons_append, List.nil_append, List.append_nil, List.replicate, List.getElem?_cons_zero, List.getElem?_cons_succ, Option.some.injEq, V.int.injEq, V.bl.injEq, V.ref.injEq, V.str.injEq, List.cons.injEq, exists_eq_left', exists_eq_left, exists_and_left, and_assoc, upd_same, upd_upd, HO.lst.injEq, HO.tup.injEq, atI_0, atI_1, atI_2, atI_3, set_1, set_2, set_3, CDiv, CPow, CMul, List.length_set, Int.reduceToNat, Int.reduceLE, Int.reduceLT, Int.reducePow, Int.reduceNeg, Nat.reduceAdd, Nat.reduceLT, Nat.reduceLeDiff, Nat.reducePow, Nat.zero_add, or_true, true_or, gt_iff_lt, ge_iff_le, and_true, true_and, decide_eq_true_eq, if_true, Bool.false_eq_true, if_false]
    exact ⟨p, L, rfl, rowS s0 hS, hl, .inr (hb.move s0)⟩
end
end AK
set_option Elab.async false
set_option linter.all false
set_option maxRecDepth 100000
set_option maxHeartbeats 4000000
namespace AK
open PySem PySem.Spec PyProof.Rows L2
section
variable {P : Program} {w : World} {K : PySem.W.Frag} {mg : Str → Option Value} {base : Heap} {a : Ads}
/-! the pool -/
def poolNum (z : Int) : Int := if 0 ≤ z then 2 * z else -2 * z - 1
theorem poolNum_nn (z : Int) : 0 ≤ poolNum z := by
  unfold poolNum
  split <;> omega
def spPoolP : Prop := True
structure Pool (G H : Hp) (p : Addr) : Prop where
  le : Same G H
  out : G p = none
  ex : ∃ (c : Addr) (cells : List Int) (i d x : Int), H p = some (.lst [.ref c, .int i, .int d, .int x]) ∧ G c = some (.lst (cells.map V.int)) ∧ (∀ z ∈ cells, 0 ≤ z) ∧ 0 ≤ i ∧ 0 ≤ d ∧ 0 ≤ x ∧ x < 2147483647
def spPool (K : PySem.W.Frag) : Sp := fun vs H Q _ => ∃ (a : Addr) (ns : List Int), vs = [.ref a] ∧ SqL K H a (ns.map V.int) ∧ ns.length ≤ 63 ∧ ∀ G H' p, Same H G → H p = none → Pool G H' p → Q (.ref p) H'
theorem ok_law_pool {f : Addr} {fd : FuncData} (F : Fun K "_law_pool" "_law_pool" s_law_pool f fd) : FnOk P w K mg base CX0 1 f fd ["script"] (spPool K) := by
  refine F.ok sc_law_pool (fun vs H Q E h => ?_) (fun cdv A outer s H vs Q E hr h => ?_)
  · obtain ⟨a, ns, rfl, _⟩ := h
    rfl
  · obtain ⟨a, ns, rfl, hS, hl, q⟩ := h
    refine ⟨_, (pss_one (ps_ret (pe_lst (pa_cons (pe_lc (own := [("cell", 1)]) (g := gName 1) (tt := tYes) rfl sc_law_pool.nd (pi_list (pv 0)) (blkOk_by (own := [("cell", 1)]) (N := sc_law_pool_N) (sc := defScope s_law_pool) (by decide +kernel)) (fun _ _ _ _ _ => (pg_name (i := 1) sc_law_pool.nd rfl (.inl rfl))) (fun _ _ _ _ _ => pts_nil) (fun _ _ _ _ _ => (pe_ifExp (pt_cmpR op_ge (pv 1) pe_int (nomark _)) (pe_op op_mul pe_int (pv 1)) (pe_op op_sub (pe_op op_mul (pe_un un_neg pe_int) (pv 1)) pe_int)))) (pa_cons pe_int (pa_cons pe_int (pa_cons pe_int pa_nil))))))), ?_⟩
    refine ⟨_, rfl, a, rfl, ⟨_, hS⟩, fun D hD => ?_⟩
    refine lc_list (K := K) (a := a) (xs := ns.map V.int) (fun i H' => ∃ o, H' = upd H D o ∧ o = .lst (((ns.take i).map poolNum).map V.int)) ⟨_, rfl, rfl⟩ ?_ ?_ ?_
    · rintro i H' _ ⟨o, rfl, _⟩
      exact (same_new hD).seq hS
    · rintro i x H' hx ⟨o, rfl, rfl⟩
      obtain ⟨z, hz, rfl⟩ := map_at hx
      refine ⟨rfl, ?_⟩
      simp only [tSeq, tAsg, tRet, tRetN, tDrop, tIfS, tNext, tNever, tOp, tUn, tVar, tC, rI0, rI, rU, tTest, tIf, tB, tAnd, tOr, tNot, tAndV, tOrV, tNotV, gName, gSub, gTupH, gCons, gNil, tYes, tCons, tNil, tLst, tTup, tCB, tCall, tMeth, tMake, tFld, sFld, tFor_c, tLc_c, iRng1, iList, iTup, iStr, iSeqB, iEnumB, tM1, tSl, tPart, tNoPart, rSlS, rIxS, tBM, rAppend, tIf, rEq, rNe, scal, hIx, hIxT, hIxB, hSet, hInt, hIntB, hLen, hLenT, hLenB, L2.start, wipe, List.map_cons, List.map_nil, List.set_cons_zero, List.set_cons_succ, List.set_nil, List.length_cons, List.length_nil, List.length_map, List.cons_append, List.nil_append, List.append_nil, List.replicate, List.getElem?_cons_zero, List.getElem?_cons_succ, Option.some.injEq, V.int.injEq, V.bl.injEq, V.ref.injEq, V.str.injEq, List.cons.injEq, exists_eq_left', exists_eq_left, exists_and_left, and_assoc, upd_same, upd_upd, HO.lst.injEq, HO.tup.injEq, atI_0, atI_1, atI_2, atI_3, set_1, set_2, set_3, CDiv, CPow, CMul, List.length_set, Int.reduceToNat, Int.reduceLE, Int.reduceLT, Int.reducePow, Int.reduceNeg, Nat.reduceAdd, Nat.reduceLT, Nat.reduceLeDiff, Nat.reducePow, Nat.zero_add, or_true, true_or, gt_iff_lt, ge_iff_le, and_true, true_and, decide_eq_true_eq, if_true, Bool.false_eq_true, if_false, *]
      have e1 : ((ns.take (i + 1)).map poolNum).map V.int = ((ns.take i).map poolNum).map V.int ++ [V.int (poolNum z)] := by
        rw [take_s hz, List.map_append, List.map_append]
        rfl
      have e2 : (((ns.take i).map poolNum).map V.int).length < sizeLine := by
        rw [List.length_map, List.length_map, List.length_take]
        exact small1000 (by omega)
      refine ite2 (fun c => ?_) (fun c => ?_)
      · refine ⟨by rw [List.length_map, List.length_map] at e2; exact e2, _, rfl, ?_⟩
        rw [e1]
        unfold poolNum
        rw [if_pos c]
      · refine ⟨by rw [List.length_map, List.length_map] at e2; exact e2, _, rfl, ?_⟩
        rw [e1]
        unfold poolNum
        rw [if_neg c]
    · rintro H' ⟨o, rfl, rfl⟩
      simp only [tSeq, tAsg, tRet, tRetN, tDrop, tIfS, tNext, tNever, tOp, tUn, tVar, tC, rI0, rI, rU, tTest, tIf, tB, tAnd, tOr, tNot, tAndV, tOrV, tNotV, gName, gSub, gTupH, gCons, gNil, tYes, tCons, tNil, tLst, tTup, tCB, tCall, tMeth, tMake, tFld, sFld, tFor_c, tLc_c, iRng1, iList, iTup, iStr, iSeqB, iEnumB, tM1, tSl, tPart, tNoPart, rSlS, rIxS, tBM, rAppend, tIf, rEq, rNe, scal, hIx, hIxT, hIxB, hSet, hInt, hIntB, hLen, hLenT, hLenB, L2.start, wipe, List.map_cons, List.map_nil, List.set_cons_zero, List.set_cons_succ, List.set_nil, List.length_cons, List.length_nil, List.length_map, List.cons_append, List.nil_append, List.append_nil, List.replicate, List.getElem?_cons_zero, List.getElem?_cons_succ, Option.some.injEq, V.int.injEq, V.bl.injEq, V.ref.injEq, V.str.injEq, List.cons.injEq, exists_eq_left', exists_eq_left, exists_and_left, and_assoc, upd_same, upd_upd, HO.lst.injEq, HO.tup.injEq, atI_0, atI_1, atI_2, atI_3, set_1, set_2, set_3, CDiv, CPow, CMul, List.length_set, Int.reduceToNat, Int.reduceLE, Int.reduceLT, Int.reducePow, Int.reduceNeg, Nat.reduceAdd, Nat.reduceLT, Nat.reduceLeDiff, Nat.reducePow, Nat.zero_add, or_true, true_or, gt_iff_lt, ge_iff_le, and_true, true_and, decide_eq_true_eq, if_true, Bool.false_eq_true, if_false, *]
      refine ⟨by show 3 + 1 ≤ sizeLine; decide, fun p hp => ?_⟩
      have hpD : p ≠ D := (ne_of_none upd_same hp).symm
      have hpn : H p = none := by rw [upd_ne hpD] at hp; exact hp
      refine q (upd H D (.lst ((ns.map poolNum).map V.int))) _ p (same_new hD) hpn ⟨?_, ?_, D, ns.map poolNum, 0, 0, 17, upd_same, upd_same, ?_, by decide, by decide, by decide, by decide⟩
      · rw [List.take_of_length_le (Nat.le_refl _)]
        exact same_new (by rw [upd_ne hpD]; exact hpn)
      · rw [upd_ne hpD]
        exact hpn
      · intro z hz
        obtain ⟨y, _, rfl⟩ := List.mem_map.mp hz
        exact poolNum_nn y
/-! a draw -/
def spTake (C : Int → Prop) : Sp := fun vs H Q _ => ∃ (p : Addr) (m : Int) (c : Addr) (cells : List Int) (i d x : Int), vs = [.ref p, .int m] ∧ 0 < m ∧ m < 1073741824 ∧
  H p = some (.lst [.ref c, .int i, .int d, .int x]) ∧ H c = some (.lst (cells.map V.int)) ∧ c ≠ p ∧ (∀ z ∈ cells, 0 ≤ z) ∧ 0 ≤ i ∧ 0 ≤ d ∧ 0 ≤ x ∧ x < 2147483647 ∧ C d ∧
  ∀ r i' d' x', 0 ≤ r → r < m → 0 ≤ i' → 0 ≤ d' → 0 ≤ x' → x' < 2147483647 → Q (.int r) (upd H p (.lst [.ref c, .int i', .int d', .int x']))
theorem ok_law_take0 (T : Txt K mg a) : FnOk P w K mg base CX0 1 a.a_law_take a.d_law_take ["pool", "many"] (spTake (fun d => 0 < d)) := by
  refine T.F_law_take.ok sc_law_take (fun vs H Q E h => ?_) (fun cdv A outer s H vs Q E hr h => ?_)
  · obtain ⟨p, m, c, cells, i, d, x, rfl, _⟩ := h
    rfl
  · obtain ⟨p, m, c, cells, i, d, x, rfl, hm, hm2, hp, hc, hcp, hcl, hi, hd, hx, hx2, hP, q⟩ := h
    refine ⟨_, (pss_cons (ps_if (pt_cmpR op_gt (pe_ix ixH (pv 0) pe_int (fun _ _ => rfl)) pe_int (nomark _))
      (pss_cons (ps_set (i := 2) sc_law_take.nd rfl (.inl rfl) (pe_op op_mod (pe_callTy callInt (by rfl) T.z_int (by decide +kernel) (pa_cons (pe_ix ixH (pv 0) pe_int (fun _ _ => rfl)) pa_nil)) (pv 1)))
      (pss_cons (ps_asg (pe_op op_fdiv (pe_ix ixH (pv 0) pe_int (fun _ _ => rfl)) (pv 1)) (pg_sub (pv 0) pe_int setH))
      (pss_one (ps_ret (pv 2)))))
      pss_nil)
      pss_never), ?_⟩
    simp only [tSeq, tAsg, tRet, tRetN, tDrop, tIfS, tNext, tNever, tOp, tUn, tVar, tC, rI0, rI, rU, tTest, tIf, tB, tAnd, tOr, tNot, tAndV, tOrV, tNotV, gName, gSub, gTupH, gCons, gNil, tYes, tCons, tNil, tLst, tTup, tCB, tCall, tMeth, tMake, tFld, sFld, tFor_c, tLc_c, iRng1, iList, iTup, iStr, iSeqB, iEnumB, tM1, tSl, tPart, tNoPart, rSlS, rIxS, tBM, rAppend, tIf, rEq, rNe, scal, hIx, hIxT, hIxB, hSet, hInt, hIntB, hLen, hLenT, hLenB, L2.start, wipe, List.map_cons, List.map_nil, List.set_cons_zero, List.set_cons_succ, List.set_nil, List.length_cons, List.length_nil, List.length_map, List.cons_append, List.nil_append, List.append_nil, List.replicate, List.getElem?_cons_zero, List.getElem?_cons_succ, Option.some.injEq, V.int.injEq, V.bl.injEq, V.ref.injEq, V.str.injEq, List.cons.injEq, exists_eq_left', exists_eq_left, exists_and_left, and_assoc, upd_same, upd_upd, HO.lst.injEq, HO.tup.injEq, atI_0, atI_1, atI_2, atI_3, set_1, set_2, set_3, CDiv, CPow, CMul, List.length_set, Int.reduceToNat, Int.reduceLE, Int.reduceLT, Int.reducePow, Int.reduceNeg, Nat.reduceAdd, Nat.reduceLT, Nat.reduceLeDiff, Nat.reducePow, Nat.zero_add, or_true, true_or, gt_iff_lt, ge_iff_le, and_true, true_and, decide_eq_true_eq, if_true, Bool.false_eq_true, if_false, *]
    exact q _ _ _ _ (Int.emod_nonneg _ (by omega)) (Int.emod_lt_of_pos _ hm) hi (Int.ediv_nonneg hd (by omega)) hx hx2
theorem ok_law_take (T : Txt K mg a) : FnOk P w K mg base CX0 2 a.a_law_take a.d_law_take ["pool", "many"] (spTake (fun _ => True)) := by
  have G_law_take : FnOk P w K mg base CX0 1 a.a_law_take a.d_law_take ["pool", "many"] (spTake (fun d => 0 < d)) := ok_law_take0 T
  refine T.F_law_take.ok sc_law_take (fun vs H Q E h => ?_) (fun cdv A outer s H vs Q E hr h => ?_)
  · obtain ⟨p, m, c, cells, i, d, x, rfl, _⟩ := h
    rfl
  · obtain ⟨p, m, c, cells, i, d, x, rfl, hm, hm2, hp, hc, hcp, hcl, hi, hd, hx, hx2, hP, q⟩ := h
    refine ⟨_, (pss_cons (ps_if (pt_cmpR op_gt (pe_ix ixH (pv 0) pe_int (fun _ _ => rfl)) pe_int (nomark _))
      (pss_cons (ps_set (i := 2) sc_law_take.nd rfl (.inl rfl) (pe_op op_mod (pe_callTy callInt (by rfl) T.z_int (by decide +kernel) (pa_cons (pe_ix ixH (pv 0) pe_int (fun _ _ => rfl)) pa_nil)) (pv 1)))
      (pss_cons (ps_asg (pe_op op_fdiv (pe_ix ixH (pv 0) pe_int (fun _ _ => rfl)) (pv 1)) (pg_sub (pv 0) pe_int setH))
      (pss_one (ps_ret (pv 2)))))
      pss_nil)
      (pss_cons (ps_set (i := 3) sc_law_take.nd rfl (.inl rfl) pe_int)
      (pss_cons (ps_if (pt_cmpR op_lt (pe_ix ixH (pv 0) pe_int (fun _ _ => rfl)) (pe_callB callLen (by rfl) T.z_len PySem.boot_len (pa_cons (pe_ix ixH (pv 0) pe_int (fun _ _ => rfl)) pa_nil)) (nomark _))
      (pss_one (ps_set (i := 3) sc_law_take.nd rfl (.inl rfl) (pe_ix ixH (pe_ix ixH (pv 0) pe_int (fun _ _ => rfl)) (pe_ix ixH (pv 0) pe_int (fun _ _ => rfl)) (fun _ _ => rfl))))
      pss_nil)
      (pss_cons (ps_asg (pe_op op_add (pe_ix ixH (pv 0) pe_int (fun _ _ => rfl)) pe_int) (pg_sub (pv 0) pe_int setH))
      (pss_cons (ps_if (pt_cmpR op_ge (pv 3) (pe_op powH pe_int pe_int) (nomark _))
      (pss_cons (ps_asg (pe_op op_fdiv (pv 3) pe_int) (pg_sub (pv 0) pe_int setH))
      (pss_one (ps_ret (pe_call G_law_take (hr.mono (by first | decide | exact Nat.le_refl _ | omega)) (by rfl) T.g_law_take T.F_law_take.kp T.b_law_take .nil pass0 (pa_cons (pv 0) (pa_cons (pv 1) pa_nil))))))
      pss_nil)
      (pss_cons (ps_asg (pe_op op_mod (pe_callTy callInt (by rfl) T.z_int (by decide +kernel) (pa_cons (pe_op op_add (pe_op op_add (pe_op op_mul (pe_ix ixH (pv 0) pe_int (fun _ _ => rfl)) pe_int) (pe_op op_mul (pv 3) pe_int)) (pe_op op_mul (pe_ix ixH (pv 0) pe_int (fun _ _ => rfl)) pe_int)) pa_nil)) pe_int) (pg_sub (pv 0) pe_int setH))
      (pss_cons (ps_set (i := 4) sc_law_take.nd rfl (.inl rfl) (pe_op op_mod (pe_callTy callInt (by rfl) T.z_int (by decide +kernel) (pa_cons (pe_op op_add (pe_op op_add (pe_op op_mul (pe_ix ixH (pv 0) pe_int (fun _ _ => rfl)) (pe_ix ixH (pv 0) pe_int (fun _ _ => rfl))) (pe_op op_mul (pe_ix ixH (pv 0) pe_int (fun _ _ => rfl)) pe_int)) pe_int) pa_nil)) pe_int))
      (pss_one (ps_ret (pe_op op_mod (pe_callTy callInt (by rfl) T.z_int (by decide +kernel) (pa_cons (pe_op op_fdiv (pv 4) pe_int) pa_nil)) (pv 1))))))))))), ?_⟩
    simp only [tSeq, tAsg, tRet, tRetN, tDrop, tIfS, tNext, tNever, tOp, tUn, tVar, tC, rI0, rI, rU, tTest, tIf, tB, tAnd, tOr, tNot, tAndV, tOrV, tNotV, gName, gSub, gTupH, gCons, gNil, tYes, tCons, tNil, tLst, tTup, tCB, tCall, tMeth, tMake, tFld, sFld, tFor_c, tLc_c, iRng1, iList, iTup, iStr, iSeqB, iEnumB, tM1, tSl, tPart, tNoPart, rSlS, rIxS, tBM, rAppend, tIf, rEq, rNe, scal, hIx, hIxT, hIxB, hSet, hInt, hIntB, hLen, hLenT, hLenB, L2.start, wipe, List.map_cons, List.map_nil, List.set_cons_zero, List.set_cons_succ, List.set_nil, List.length_cons, List.length_nil, List.length_map, List.cons_append, List.nil_append, List.append_nil, List.replicate, List.getElem?_cons_zero, List.getElem?_cons_succ, Option.some.injEq, V.int.injEq, V.bl.injEq, V.ref.injEq, V.str.injEq, List.cons.injEq, exists_eq_left', exists_eq_left, exists_and_left, and_assoc, upd_same, upd_upd, HO.lst.injEq, HO.tup.injEq, atI_0, atI_1, atI_2, atI_3, set_1, set_2, set_3, CDiv, CPow, CMul, List.length_set, Int.reduceToNat, Int.reduceLE, Int.reduceLT, Int.reducePow, Int.reduceNeg, Nat.reduceAdd, Nat.reduceLT, Nat.reduceLeDiff, Nat.reducePow, Nat.zero_add, or_true, true_or, gt_iff_lt, ge_iff_le, and_true, true_and, decide_eq_true_eq, if_true, Bool.false_eq_true, if_false, *]
    have big : ∀ y : Int, (-18446744073709551616 < y % 2147483647 ∧ y % 2147483647 < 18446744073709551616) := fun y => by omega
    have fin : ∀ y z : Int, 0 ≤ y % 1000000007 / 3 % m ∧ y % 1000000007 / 3 % m < m := fun y z => ⟨Int.emod_nonneg _ (by omega), Int.emod_lt_of_pos _ hm⟩
    have fx : ∀ y : Int, 0 ≤ y % 2147483647 ∧ y % 2147483647 < 2147483647 := fun y => by omega
    refine ite2 (fun c1 => ?_) (fun c1 => ?_)
    · exact q _ _ _ _ (Int.emod_nonneg _ (by omega)) (Int.emod_lt_of_pos _ hm) hi (Int.ediv_nonneg hd (by omega)) hx hx2
    · refine ite2 (fun c2 => ?_) (fun c2 => ?_)
      · have hlt : i.toNat < cells.length := by omega
        have hz : (cells.map V.int)[i.toNat]? = some (.int cells[i.toNat]) := by
          rw [List.getElem?_map, List.getElem?_eq_getElem hlt]
          rfl
        have hnn : 0 ≤ cells[i.toNat] := hcl _ (List.getElem_mem hlt)
        refine ⟨_, by rw [← Int.toNat_of_nonneg hi]; exact atI_nat hz, _, rfl, ?_⟩
        refine ite2 (fun c3 => ?_) (fun c3 => ?_)
        · refine ⟨_, rfl, ?_⟩
          refine ⟨p, m, c, cells, i + 1, cells[i.toNat] / 2, x, rfl, hm, hm2, upd_same, by rw [upd_ne hcp]; exact hc, hcp, hcl, by omega, by omega, hx, hx2, by omega, ?_⟩
          intro r i' d' x' h1 h2 h3 h4 h5 h6
          rw [upd_upd]
          exact q r i' d' x' h1 h2 h3 h4 h5 h6
        · refine ⟨_, rfl, .inl (big _), ?_⟩
          exact q _ _ _ _ (fin _ 0).1 (fin _ 0).2 (by omega) hd (fx _).1 (fx _).2
      · refine ⟨.inl (big _), ?_⟩
        exact q _ _ _ _ (fin _ 0).1 (fin _ 0).2 (by omega) hd (fx _).1 (fx _).2
end
end AK
set_option Elab.async false
set_option linter.all false
set_option maxRecDepth 100000
set_option maxHeartbeats 4000000
namespace AK
open PySem PySem.Spec PyProof.Rows L2
/-- the pool at p, its cells at c -/
structure PoolAt (H : Hp) (p c : Addr) : Prop where
  ne : c ≠ p
  ex : ∃ (cells : List Int) (i d x : Int), H p = some (.lst [.ref c, .int i, .int d, .int x]) ∧ H c = some (.lst (cells.map V.int)) ∧ (∀ z ∈ cells, 0 ≤ z) ∧ 0 ≤ i ∧ 0 ≤ d ∧ 0 ≤ x ∧ x < 2147483647
/-- all but what stands at p is kept -/
def Off1 (p : Addr) (H H' : Hp) : Prop := ∀ b o, b ≠ p → H b = some o → H' b = some o
theorem Off1.refl {p : Addr} {H : Hp} : Off1 p H H := fun _ _ _ e => e
theorem Off1.tr {p : Addr} {H H1 H2 : Hp} (a : Off1 p H H1) (b : Off1 p H1 H2) : Off1 p H H2 := fun x o h e => b x o h (a x o h e)
theorem Off1.of {p : Addr} {H H' : Hp} (s : Same H H') : Off1 p H H' := fun b o _ e => s b o e
theorem PoolAt.has {H : Hp} {p c : Addr} (h : PoolAt H p c) : ∃ o, H p = some o := by
  obtain ⟨_, _, _, _, e, _⟩ := h.ex
  exact ⟨_, e⟩
theorem PoolAt.same {H H' : Hp} {p c : Addr} (h : PoolAt H p c) (s : Same H H') : PoolAt H' p c := by
  obtain ⟨cells, i, d, x, h1, h2, h3⟩ := h.ex
  exact ⟨h.ne, cells, i, d, x, s _ _ h1, s _ _ h2, h3⟩
theorem PoolAt.new {H : Hp} {p c q : Addr} {o : HO} (h : PoolAt H p c) (hq : H q = none) : PoolAt (upd H q o) p c := h.same (same_new hq)
/-- a write at q, which is none of the pool's -/
theorem PoolAt.wr {H : Hp} {p c q : Addr} {o : HO} (h : PoolAt H p c) (h1 : q ≠ p) (h2 : q ≠ c) : PoolAt (upd H q o) p c := by
  obtain ⟨cells, i, d, x, e1, e2, e3⟩ := h.ex
  exact ⟨h.ne, cells, i, d, x, by rw [upd_ne h1.symm]; exact e1, by rw [upd_ne h2.symm]; exact e2, e3⟩
theorem Off1.new {p q : Addr} {H H' : Hp} {o : HO} (h : Off1 p H H') (hq : H' q = none) : Off1 p H (upd H' q o) := h.tr (.of (same_new hq))
/-- a write at an address that H does not hold -/
theorem Off1.wr {p q : Addr} {H H' : Hp} {o : HO} (h : Off1 p H H') (hq : H q = none) : Off1 p H (upd H' q o) := fun b u hb e => by
  rw [upd_ne (ne_of_none e hq)]
  exact h b u hb e
theorem Off1.fresh {p q c : Addr} {H H1 : Hp} (h : Off1 p H H1) (hp : PoolAt H1 p c) (hq : H1 q = none) : H q = none := by
  cases e : H q with
  | none => rfl
  | some o =>
    by_cases z : q = p
    · obtain ⟨o', e'⟩ := hp.has
      rw [z, e'] at hq
      cases hq
    · rw [h q o z e] at hq
      cases hq
theorem PoolAt.ne_p {H : Hp} {p c q : Addr} (h : PoolAt H p c) (hq : H q = none) : q ≠ p := fun z => by
  obtain ⟨o, e⟩ := h.has
  rw [z, e] at hq
  cases hq
theorem PoolAt.ne_c {H : Hp} {p c q : Addr} (h : PoolAt H p c) (hq : H q = none) : q ≠ c := fun z => by
  obtain ⟨_, _, _, _, _, e, _⟩ := h.ex
  rw [z, e] at hq
  cases hq
theorem tab_off {H H' : Hp} {tb p c : Addr} (h : GxR.TabG H tb) (k : PoolAt H p c) (s : Off1 p H H') : GxR.TabG H' tb := by
  obtain ⟨ps, e, t⟩ := h
  refine ⟨ps, s _ _ (fun z => ?_) e, t⟩
  obtain ⟨_, _, _, _, e1, _⟩ := k.ex
  rw [← z, e] at e1
  cases e1
theorem take_pool {H : Hp} {p c : Addr} {m : Int} {Q : VK} {E : XK} (h : PoolAt H p c) (h0 : 0 < m) (h1 : m < 1073741824) (q : ∀ r H', 0 ≤ r → r < m → Off1 p H H' → (∀ b, b ≠ p → H' b = H b) → PoolAt H' p c → Q (.int r) H') :
    spTake (fun _ => True) [.ref p, .int m] H Q E := by
  obtain ⟨cells, i, d, x, e1, e2, e3, e4, e5, e6, e7⟩ := h.ex
  refine ⟨p, m, c, cells, i, d, x, rfl, h0, h1, e1, e2, h.ne, e3, e4, e5, e6, e7, trivial, fun r i' d' x' r0 r1 i0 d0 x0 x1 => q r _ r0 r1 (fun b o hb e => ?_) (fun b hb => upd_ne hb) ⟨h.ne, cells, i', d', x', upd_same, ?_, e3, i0, d0, x0, x1⟩⟩
  · rw [upd_ne hb]
    exact e
  · rw [upd_ne h.ne]
    exact e2
/-! ### texts that are drawn -/
theorem la (y z : Str) : (y ++ z).length = y.length + z.length := by
  show (y.cps ++ z.cps).size = _
  rw [Array.size_append]
  rfl
theorem tx_app (l m : List Nat) : tx l ++ tx m = tx (l ++ m) := by
  show (⟨l.toArray ++ m.toArray⟩ : Str) = _
  unfold tx
  simp
theorem join_tx : ∀ l : List Nat, Str.join Str.empty (l.map fun c => tx [c]) = tx l
  | [] => rfl
  | [c] => rfl
  | c :: d :: l => by
    have ih := join_tx (d :: l)
    show tx [c] ++ Str.empty ++ Str.join Str.empty ((d :: l).map fun c => tx [c]) = _
    rw [ih, show Str.empty = tx [] from rfl, tx_app, tx_app]
    rfl
theorem sum_one : ∀ l : List Nat, ((l.map fun c => tx [c]).map (·.length)).sum = l.length
  | [] => rfl
  | c :: l => by
    rw [List.map_cons, List.map_cons, List.sum_cons, sum_one l, List.length_cons, len_tx]
    simp [Nat.add_comm]
theorem asc_sub : ∀ (l b : List Nat), b.Nodup → l.Sublist b → asc b l = true
  | [], b, _, _ => asc_nil b
  | c :: l, b, hn, hs => by
    have hm : c ∈ b := hs.subset (List.mem_cons_self ..)
    obtain ⟨p, q, e1, e2, e3⟩ := split_at hm
    have key : ∀ p : List Nat, c ∉ p → (c :: l).Sublist (p ++ c :: q) → l.Sublist q := by
      intro p
      induction p with
      | nil =>
        intro _ h
        exact List.cons_sublist_cons.mp h
      | cons y p ih =>
        intro hp h
        cases h with
        | cons _ h' => exact ih (fun z => hp (List.mem_cons_of_mem _ z)) h'
        | cons_cons _ h' => exact absurd (List.mem_cons_self ..) hp
    rw [asc_cons, decide_eq_true hm, Bool.true_and, e3]
    rw [e1] at hs hn
    refine asc_sub l q ?_ (key p e2 hs)
    have := (List.nodup_append.mp hn).2.1
    exact (List.nodup_cons.mp this).2
end AK
set_option Elab.async false
set_option linter.all false
set_option maxRecDepth 100000
set_option maxHeartbeats 4000000
namespace AK
open PySem PySem.Spec PyProof.Rows L2
theorem rep_snoc (i : Nat) : (List.replicate i true).map V.bl ++ [V.bl true] = V.bl true :: (List.replicate i true).map V.bl := by
  rw [List.map_replicate, ← List.replicate_succ', List.replicate_succ]
/-- the same data, of a depth of n at most -/
inductive SameD (H : Hp) : Nat → V → V → Prop where
  | non (n : Nat) : SameD H n .non .non
  | bl (n : Nat) (b : Bool) : SameD H n (.bl b) (.bl b)
  | int (n : Nat) (i : Int) : SameD H n (.int i) (.int i)
  | str (n : Nat) (x : Str) : SameD H n (.str x) (.str x)
  | tup {n : Nat} {p q : Addr} {xs ys : List V} (e1 : H p = some (.tup xs)) (e2 : H q = some (.tup ys)) (l : xs.length = ys.length) (l2 : ys.length ≤ 900) (h : ∀ (i : Nat) (x y : V), xs[i]? = some x → ys[i]? = some y → SameD H n x y) : SameD H (n + 1) (.ref p) (.ref q)
  | lst {n : Nat} {p q : Addr} {xs ys : List V} (e1 : H p = some (.lst xs)) (e2 : H q = some (.lst ys)) (l : xs.length = ys.length) (l2 : ys.length ≤ 900) (h : ∀ (i : Nat) (x y : V), xs[i]? = some x → ys[i]? = some y → SameD H n x y) : SameD H (n + 1) (.ref p) (.ref q)
theorem SameD.same {H H' : Hp} (s : Same H H') {n : Nat} {x y : V} (h : SameD H n x y) : SameD H' n x y := by
  induction h with
  | non n => exact .non n
  | bl n b => exact .bl n b
  | int n i => exact .int n i
  | str n x => exact .str n x
  | tup e1 e2 l l2 _ ih => exact .tup (s _ _ e1) (s _ _ e2) l l2 ih
  | lst e1 e2 l l2 _ ih => exact .lst (s _ _ e1) (s _ _ e2) l l2 ih
theorem isi_of {K : PySem.W.Frag} {H : Hp} {x : V} {t : Value} {T : String} {b : Bool} {Q : VK} (h : TyOf K H x t) (e : PySem.W.kitOne K t (.type T) = some b) (q : Q (.bl b) H) : rIsi K [x, .ty T] H Q := ⟨x, .ty T, t, _, b, rfl, .ty T, .base h, e, q⟩
section
variable {P : Program} {w : World} {K : PySem.W.Frag} {mg : Str → Option Value} {base : Heap} {a : Ads}
def spInt : Sp := fun vs H Q _ => ∃ i : Int, vs = [.int i] ∧ Q (.bl true) H
theorem ok_law_is_integer (T : Txt K mg a) : FnOk P w K mg base CX0 1 a.a_law_is_integer a.d_law_is_integer ["actual"] spInt := by
  refine T.F_law_is_integer.ok sc_law_is_integer (fun vs H Q E h => ?_) (fun cdv A outer s H vs Q E hr h => ?_)
  · obtain ⟨_, rfl, _⟩ := h
    rfl
  · obtain ⟨i, rfl, q⟩ := h
    refine ⟨_, (pss_one (ps_ret (pe_and (pe_callB call_isi (by rfl) T.z_isinstance (by decide +kernel) (pa_cons (pv 0) (pa_cons (pe_bltn (v := .ty "int") (by rfl) T.z_int (by decide +kernel) rfl) pa_nil))) (pe_one (pe_not (pe_callB call_isi (by rfl) T.z_isinstance (by decide +kernel) (pa_cons (pv 0) (pa_cons (pe_bltn (v := .ty "bool") (by rfl) T.z_bool (by decide +kernel) rfl) pa_nil)))))))), ?_⟩
    simp only [tSeq, tAsg, tRet, tRetN, tDrop, tIfS, tNext, tNever, tOp, tUn, tVar, tC, rI0, rI, rU, tTest, tIf, tB, tAnd, tOr, tNot, tAndV, tOrV, tNotV, gName, gSub, gTupH, gCons, gNil, tYes, tCons, tNil, tLst, tTup, tCB, tCall, tMeth, tMake, tFld, sFld, tFor_c, tLc_c, iRng1, iList, iTup, iStr, iSeqB, iEnumB, tM1, tSl, tPart, tNoPart, rSlS, rIxS, tBM, rAppend, tIf, rEq, rNe, scal, hIx, hIxT, hIxB, hSet, hInt, hIntB, hLen, hLenT, hLenB, L2.start, wipe, List.map_cons, List.map_nil, List.set_cons_zero, List.set_cons_succ, List.set_nil, List.length_cons, List.length_nil, List.length_map, List.cons_append, List.nil_append, List.append_nil, List.replicate, List.getElem?_cons_zero, List.getElem?_cons_succ, Option.some.injEq, V.int.injEq, V.bl.injEq, V.ref.injEq, V.str.injEq, List.cons.injEq, exists_eq_left', exists_eq_left, exists_and_left, and_assoc, upd_same, upd_upd, HO.lst.injEq, HO.tup.injEq, atI_0, atI_1, atI_2, atI_3, set_1, set_2, set_3, CDiv, CPow, CMul, List.length_set, Int.reduceToNat, Int.reduceLE, Int.reduceLT, Int.reducePow, Int.reduceNeg, Nat.reduceAdd, Nat.reduceLT, Nat.reduceLeDiff, Nat.reducePow, Nat.zero_add, or_true, true_or, gt_iff_lt, ge_iff_le, and_true, true_and, decide_eq_true_eq, if_true, Bool.false_eq_true, if_false]
    refine isi_of (.int i) (by rfl) ⟨true, rfl, iteT (isi_of (.int i) (by rfl) ⟨false, rfl, q⟩)⟩
def spSame (n : Nat) : Sp := fun vs H Q _ => ∃ x y, vs = [x, y] ∧ SameD H n x y ∧ ∀ H', Same H H' → Q (.bl true) H'
theorem ok_same_core (T : Txt K mg a) (m k : Nat) (spI : Sp) (hk : 1 ≤ k) (G_law_same : FnOk P w K mg base CX0 k a.a_law_same a.d_law_same ["actual", "due"] spI) (hI : ∀ n, m = n + 1 → ∀ vs H Q E, spSame n vs H Q E → spI vs H Q E) :
    FnOk P w K mg base CX0 (k + 1) a.a_law_same a.d_law_same ["actual", "due"] (spSame m) := by
  have G_law_is_integer := (ok_law_is_integer (P := P) (w := w) (base := base) T).mono hk
  refine T.F_law_same.ok sc_law_same (fun vs H Q E h => ?_) (fun cdv A outer s H vs Q E hr h => ?_)
  · obtain ⟨_, _, rfl, _⟩ := h
    rfl
  · obtain ⟨x, y, rfl, hs, q⟩ := h
    refine ⟨_, (pss_cons (ps_if (pt_val (pe_callB call_isi (by rfl) T.z_isinstance (by decide +kernel) (pa_cons (pv 1) (pa_cons (pe_bltn (v := .ty "tuple") (by rfl) T.z_tuple (by decide +kernel) rfl) pa_nil))))
      (pss_cons (ps_if (PW.pt (pw_or (pt_not (pt_val (pe_callB call_isi (by rfl) T.z_isinstance (by decide +kernel) (pa_cons (pv 0) (pa_cons (pe_bltn (v := .ty "tuple") (by rfl) T.z_tuple (by decide +kernel) rfl) pa_nil))))) (pw_or1 (pt_cmpR op_ne (pe_callB callLenT (by rfl) T.z_len PySem.boot_len (pa_cons (pv 0) pa_nil)) (pe_callB callLenT (by rfl) T.z_len PySem.boot_len (pa_cons (pv 1) pa_nil)) (nomark _)))))
      (pss_one (ps_ret pe_bl))
      pss_nil)
      (pss_one (ps_ret (pe_callB (cr_all rfl) (by rfl) T.z_all (by decide +kernel) (pa_cons (pe_lc (own := [("k", 2)]) (g := gName 2) (tt := tYes) rfl sc_law_same.nd (pi_range1 (by rfl) T.z_range (pa_cons (pe_callB callLenT (by rfl) T.z_len PySem.boot_len (pa_cons (pv 1) pa_nil)) pa_nil)) (blkOk_by (own := [("k", 2)]) (N := sc_law_same_N) (sc := defScope s_law_same) (by decide +kernel)) (fun _ _ _ _ _ => (pg_name (i := 2) sc_law_same.nd rfl (.inl rfl))) (fun _ _ _ _ _ => pts_nil) (fun _ _ _ _ _ => (pe_call G_law_same (hr.mono (by first | decide | exact Nat.le_refl _ | omega)) (by rfl) T.g_law_same T.F_law_same.kp T.b_law_same .nil pass0 (pa_cons (pe_ix ixHT (pv 0) (pv 2) (fun _ _ => rfl)) (pa_cons (pe_ix ixHT (pv 1) (pv 2) (fun _ _ => rfl)) pa_nil))))) pa_nil)))))
      pss_nil)
      (pss_cons (ps_if (pt_val (pe_callB call_isi (by rfl) T.z_isinstance (by decide +kernel) (pa_cons (pv 1) (pa_cons (pe_bltn (v := .ty "list") (by rfl) T.z_list (by decide +kernel) rfl) pa_nil))))
      (pss_cons (ps_if (PW.pt (pw_or (pt_not (pt_val (pe_callB call_isi (by rfl) T.z_isinstance (by decide +kernel) (pa_cons (pv 0) (pa_cons (pe_bltn (v := .ty "list") (by rfl) T.z_list (by decide +kernel) rfl) pa_nil))))) (pw_or1 (pt_cmpR op_ne (pe_callB callLen (by rfl) T.z_len PySem.boot_len (pa_cons (pv 0) pa_nil)) (pe_callB callLen (by rfl) T.z_len PySem.boot_len (pa_cons (pv 1) pa_nil)) (nomark _)))))
      (pss_one (ps_ret pe_bl))
      pss_nil)
      (pss_one (ps_ret (pe_callB (cr_all rfl) (by rfl) T.z_all (by decide +kernel) (pa_cons (pe_lc (own := [("k", 2)]) (g := gName 2) (tt := tYes) rfl sc_law_same.nd (pi_range1 (by rfl) T.z_range (pa_cons (pe_callB callLen (by rfl) T.z_len PySem.boot_len (pa_cons (pv 1) pa_nil)) pa_nil)) (blkOk_by (own := [("k", 2)]) (N := sc_law_same_N) (sc := defScope s_law_same) (by decide +kernel)) (fun _ _ _ _ _ => (pg_name (i := 2) sc_law_same.nd rfl (.inl rfl))) (fun _ _ _ _ _ => pts_nil) (fun _ _ _ _ _ => (pe_call G_law_same (hr.mono (by first | decide | exact Nat.le_refl _ | omega)) (by rfl) T.g_law_same T.F_law_same.kp T.b_law_same .nil pass0 (pa_cons (pe_ix ixH (pv 0) (pv 2) (fun _ _ => rfl)) (pa_cons (pe_ix ixH (pv 1) (pv 2) (fun _ _ => rfl)) pa_nil))))) pa_nil)))))
      pss_nil)
      (pss_cons (ps_if (pt_cmpR op_isN (pv 1) pe_non (nomark _))
      (pss_one (ps_ret (pe_cmpR op_isN (pv 0) pe_non (nomark _))))
      pss_nil)
      (pss_cons (ps_if (pt_val (pe_callB call_isi (by rfl) T.z_isinstance (by decide +kernel) (pa_cons (pv 1) (pa_cons (pe_bltn (v := .ty "bool") (by rfl) T.z_bool (by decide +kernel) rfl) pa_nil))))
      (pss_one (ps_ret (pe_and (pe_callB call_isi (by rfl) T.z_isinstance (by decide +kernel) (pa_cons (pv 0) (pa_cons (pe_bltn (v := .ty "bool") (by rfl) T.z_bool (by decide +kernel) rfl) pa_nil))) (pe_one (pe_cmpR op_eq (pv 0) (pv 1) (nomark _))))))
      pss_nil)
      (pss_cons (ps_if (pt_val (pe_callB call_isi (by rfl) T.z_isinstance (by decide +kernel) (pa_cons (pv 1) (pa_cons (pe_bltn (v := .ty "str") (by rfl) T.z_str (by decide +kernel) rfl) pa_nil))))
      (pss_one (ps_ret (pe_and (pe_callB call_isi (by rfl) T.z_isinstance (by decide +kernel) (pa_cons (pv 0) (pa_cons (pe_bltn (v := .ty "str") (by rfl) T.z_str (by decide +kernel) rfl) pa_nil))) (pe_one (pe_cmpR op_eq (pv 0) (pv 1) (nomark _))))))
      pss_nil)
      (pss_one (ps_ret (pe_and (pe_call G_law_is_integer (hr.mono (by first | decide | exact Nat.le_refl _ | omega)) (by rfl) T.g_law_is_integer T.F_law_is_integer.kp T.b_law_is_integer .nil pass0 (pa_cons (pv 0) pa_nil)) (pe_one (pe_cmpR op_eq (pv 0) (pv 1) (nomark _))))))))))), ?_⟩
    have q0 := q H (Same.refl _)
    simp only [tSeq, tAsg, tRet, tRetN, tDrop, tIfS, tNext, tNever, tOp, tUn, tVar, tC, rI0, rI, rU, tTest, tIf, tB, tAnd, tOr, tNot, tAndV, tOrV, tNotV, gName, gSub, gTupH, gCons, gNil, tYes, tCons, tNil, tLst, tTup, tCB, tCall, tMeth, tMake, tFld, sFld, tFor_c, tLc_c, iRng1, iList, iTup, iStr, iSeqB, iEnumB, tM1, tSl, tPart, tNoPart, rSlS, rIxS, tBM, rAppend, tIf, rEq, rNe, scal, hIx, hIxT, hIxB, hSet, hInt, hIntB, hLen, hLenT, hLenB, L2.start, wipe, List.map_cons, List.map_nil, List.set_cons_zero, List.set_cons_succ, List.set_nil, List.length_cons, List.length_nil, List.length_map, List.cons_append, List.nil_append, List.append_nil, List.replicate, List.getElem?_cons_zero, List.getElem?_cons_succ, Option.some.injEq, V.int.injEq, V.bl.injEq, V.ref.injEq, V.str.injEq, List.cons.injEq, exists_eq_left', exists_eq_left, exists_and_left, and_assoc, upd_same, upd_upd, HO.lst.injEq, HO.tup.injEq, atI_0, atI_1, atI_2, atI_3, set_1, set_2, set_3, CDiv, CPow, CMul, List.length_set, Int.reduceToNat, Int.reduceLE, Int.reduceLT, Int.reducePow, Int.reduceNeg, Nat.reduceAdd, Nat.reduceLT, Nat.reduceLeDiff, Nat.reducePow, Nat.zero_add, or_true, true_or, gt_iff_lt, ge_iff_le, and_true, true_and, decide_eq_true_eq, if_true, Bool.false_eq_true, if_false]
    cases hs with
    | non n =>
      refine isi_of .non (by rfl) ⟨false, rfl, iteF (isi_of .non (by rfl) ⟨false, rfl, iteF ?_⟩)⟩
      rw [if_pos rfl, decide_eq_true rfl]
      exact q0
    | bl n b =>
      refine isi_of (.bl b) (by rfl) ⟨false, rfl, iteF (isi_of (.bl b) (by rfl) ⟨false, rfl, iteF ?_⟩)⟩
      rw [if_neg (fun z => by cases z)]
      refine isi_of (.bl b) (by rfl) ⟨true, rfl, iteT (isi_of (.bl b) (by rfl) ⟨true, rfl, iteT ⟨rfl, ?_⟩⟩)⟩
      rw [decide_eq_true rfl]
      exact q0
    | int n i =>
      refine isi_of (.int i) (by rfl) ⟨false, rfl, iteF (isi_of (.int i) (by rfl) ⟨false, rfl, iteF ?_⟩)⟩
      rw [if_neg (fun z => by cases z)]
      refine isi_of (.int i) (by rfl) ⟨false, rfl, iteF (isi_of (.int i) (by rfl) ⟨false, rfl, iteF ?_⟩)⟩
      refine ⟨i, rfl, true, rfl, iteT ⟨rfl, ?_⟩⟩
      rw [decide_eq_true rfl]
      exact q0
    | str n x =>
      refine isi_of (.str x) (by rfl) ⟨false, rfl, iteF (isi_of (.str x) (by rfl) ⟨false, rfl, iteF ?_⟩)⟩
      rw [if_neg (fun z => by cases z)]
      refine isi_of (.str x) (by rfl) ⟨false, rfl, iteF (isi_of (.str x) (by rfl) ⟨true, rfl, iteT (isi_of (.str x) (by rfl) ⟨true, rfl, iteT ⟨rfl, ?_⟩⟩)⟩)⟩
      rw [decide_eq_true rfl]
      exact q0
    | @tup n p1 p2 xs ys e1 e2 l l2 h =>
      refine isi_of (.tup e2) (by rfl) ⟨true, rfl, iteT (isi_of (.tup e1) (by rfl) ⟨true, rfl, ?_⟩)⟩
      refine iteF ⟨p1, rfl, _, e1, p2, rfl, _, e2, ?_⟩
      rw [decide_eq_true (by rw [l])]
      refine iteF ⟨p2, rfl, _, e2, by omega, by omega, ?_⟩
      refine lcRng (fun i D H' => H' D = some (.lst ((List.replicate i true).map V.bl)) ∧ Same H H') (fun D hD => ⟨upd_same, same_new hD⟩) ?_ ?_
      · rintro i D H' hD hi ⟨eD, s1⟩
        have hi' : i < ys.length := by omega
        have ei : (0 : Int) + (i : Nat) = (i : Nat) := Int.zero_add _
        have ax : xs[i]? = some (xs[i]'(by omega)) := List.getElem?_eq_getElem _
        have ay : ys[i]? = some ys[i] := List.getElem?_eq_getElem hi'
        refine ⟨rfl, ?_⟩
        simp only [tSeq, tAsg, tRet, tRetN, tDrop, tIfS, tNext, tNever, tOp, tUn, tVar, tC, rI0, rI, rU, tTest, tIf, tB, tAnd, tOr, tNot, tAndV, tOrV, tNotV, gName, gSub, gTupH, gCons, gNil, tYes, tCons, tNil, tLst, tTup, tCB, tCall, tMeth, tMake, tFld, sFld, tFor_c, tLc_c, iRng1, iList, iTup, iStr, iSeqB, iEnumB, tM1, tSl, tPart, tNoPart, rSlS, rIxS, tBM, rAppend, tIf, rEq, rNe, scal, hIx, hIxT, hIxB, hSet, hInt, hIntB, hLen, hLenT, hLenB, L2.start, wipe, List.map_cons, List.map_nil, List.set_cons_zero, List.set_cons_succ, List.set_nil, List.length_cons, List.length_nil, List.length_map, List.cons_append, List.nil_append, List.append_nil, List.replicate, List.getElem?_cons_zero, List.getElem?_cons_succ, Option.some.injEq, V.int.injEq, V.bl.injEq, V.ref.injEq, V.str.injEq, List.cons.injEq, exists_eq_left', exists_eq_left, exists_and_left, and_assoc, upd_same, upd_upd, HO.lst.injEq, HO.tup.injEq, atI_0, atI_1, atI_2, atI_3, set_1, set_2, set_3, CDiv, CPow, CMul, List.length_set, Int.reduceToNat, Int.reduceLE, Int.reduceLT, Int.reducePow, Int.reduceNeg, Nat.reduceAdd, Nat.reduceLT, Nat.reduceLeDiff, Nat.reducePow, Nat.zero_add, or_true, true_or, gt_iff_lt, ge_iff_le, and_true, true_and, decide_eq_true_eq, if_true, Bool.false_eq_true, if_false]
        refine ⟨_, s1 _ _ e1, _, by rw [ei]; exact atI_nat ax, _, s1 _ _ e2, _, by rw [ei]; exact atI_nat ay, ?_⟩
        refine hI n rfl _ _ _ _ ⟨_, _, rfl, (h i _ _ ax ay).same s1, fun H2 s2 => ?_⟩
        refine ⟨_, s2 _ _ eD, by rw [List.length_map, List.length_replicate]; exact small1000 (by omega), ?_, same_out (Same.tr s1 s2) hD⟩
        exact rep_snoc i
      · rintro D H' hD ⟨eD, s1⟩
        refine ⟨D, _, rfl, SqL.of eD, ?_⟩
        rw [show (List.replicate ((ys.length : Nat) : Int).toNat true).all id = true from by simp]
        exact q H' s1
    | @lst n p1 p2 xs ys e1 e2 l l2 h =>
      refine isi_of (.lst e2) (by rfl) ⟨false, rfl, iteF (isi_of (.lst e2) (by rfl) ⟨true, rfl, iteT (isi_of (.lst e1) (by rfl) ⟨true, rfl, ?_⟩)⟩)⟩
      refine iteF ⟨p1, rfl, _, e1, p2, rfl, _, e2, ?_⟩
      rw [decide_eq_true (by rw [l])]
      refine iteF ⟨p2, rfl, _, e2, by omega, by omega, ?_⟩
      refine lcRng (fun i D H' => H' D = some (.lst ((List.replicate i true).map V.bl)) ∧ Same H H') (fun D hD => ⟨upd_same, same_new hD⟩) ?_ ?_
      · rintro i D H' hD hi ⟨eD, s1⟩
        have hi' : i < ys.length := by omega
        have ei : (0 : Int) + (i : Nat) = (i : Nat) := Int.zero_add _
        have ax : xs[i]? = some (xs[i]'(by omega)) := List.getElem?_eq_getElem _
        have ay : ys[i]? = some ys[i] := List.getElem?_eq_getElem hi'
        refine ⟨rfl, ?_⟩
        simp only [tSeq, tAsg, tRet, tRetN, tDrop, tIfS, tNext, tNever, tOp, tUn, tVar, tC, rI0, rI, rU, tTest, tIf, tB, tAnd, tOr, tNot, tAndV, tOrV, tNotV, gName, gSub, gTupH, gCons, gNil, tYes, tCons, tNil, tLst, tTup, tCB, tCall, tMeth, tMake, tFld, sFld, tFor_c, tLc_c, iRng1, iList, iTup, iStr, iSeqB, iEnumB, tM1, tSl, tPart, tNoPart, rSlS, rIxS, tBM, rAppend, tIf, rEq, rNe, scal, hIx, hIxT, hIxB, hSet, hInt, hIntB, hLen, hLenT, hLenB, L2.start, wipe, List.map_cons, List.map_nil, List.set_cons_zero, List.set_cons_succ, List.set_nil, List.length_cons, List.length_nil, List.length_map, List.cons_append, List.nil_append, List.append_nil, List.replicate, List.getElem?_cons_zero, List.getElem?_cons_succ, Option.some.injEq, V.int.injEq, V.bl.injEq, V.ref.injEq, V.str.injEq, List.cons.injEq, exists_eq_left', exists_eq_left, exists_and_left, and_assoc, upd_same, upd_upd, HO.lst.injEq, HO.tup.injEq, atI_0, atI_1, atI_2, atI_3, set_1, set_2, set_3, CDiv, CPow, CMul, List.length_set, Int.reduceToNat, Int.reduceLE, Int.reduceLT, Int.reducePow, Int.reduceNeg, Nat.reduceAdd, Nat.reduceLT, Nat.reduceLeDiff, Nat.reducePow, Nat.zero_add, or_true, true_or, gt_iff_lt, ge_iff_le, and_true, true_and, decide_eq_true_eq, if_true, Bool.false_eq_true, if_false]
        refine ⟨_, s1 _ _ e1, _, by rw [ei]; exact atI_nat ax, _, s1 _ _ e2, _, by rw [ei]; exact atI_nat ay, ?_⟩
        refine hI n rfl _ _ _ _ ⟨_, _, rfl, (h i _ _ ax ay).same s1, fun H2 s2 => ?_⟩
        refine ⟨_, s2 _ _ eD, by rw [List.length_map, List.length_replicate]; exact small1000 (by omega), ?_, same_out (Same.tr s1 s2) hD⟩
        exact rep_snoc i
      · rintro D H' hD ⟨eD, s1⟩
        refine ⟨D, _, rfl, SqL.of eD, ?_⟩
        rw [show (List.replicate ((ys.length : Nat) : Int).toNat true).all id = true from by simp]
        exact q H' s1
theorem ok_law_same (T : Txt K mg a) : ∀ n, FnOk P w K mg base CX0 (n + 2) a.a_law_same a.d_law_same ["actual", "due"] (spSame n)
  | 0 => ok_same_core T 0 1 (fun _ _ _ _ => False) (Nat.le_refl _) ⟨fun _ _ _ _ h => h.elim, fun _ _ _ _ _ _ _ _ _ _ _ _ _ h => h.elim⟩ fun _ h => by cases h
  | n + 1 => ok_same_core T (n + 1) (n + 2) (spSame n) (by omega) (ok_law_same T n) fun m h vs H Q E z => by
    cases h
    exact z
end
end AK
set_option Elab.async false
set_option linter.all false
set_option maxRecDepth 100000
set_option maxHeartbeats 4000000
namespace AK
open PySem PySem.Spec PyProof.Rows L2
theorem rowOff {p c r : Addr} {H H' : Hp} {xs : List V} (h : RowAt H r xs) (k : PoolAt H p c) (s : Off1 p H H') (ne : r ≠ p) : RowAt H' r xs := h.imp (s _ _ ne) (s _ _ ne)
theorem cut6 {m : Nat} : cutS ("abcdef" : Str) none (some (m : Int)) = tx (six.take m) := by
  rw [cut_take, show lt ("abcdef" : Str) = six from by decide +kernel]
section
variable {P : Program} {w : World} {K : PySem.W.Frag} {mg : Str → Option Value} {base : Heap} {a : Ads}
def spPick : Sp := fun vs H Q _ => ∃ (p c r : Addr) (xs : List V), vs = [.ref p, .ref r] ∧ PoolAt H p c ∧ H r = some (.lst xs) ∧ r ≠ p ∧ xs ≠ [] ∧ xs.length ≤ 900 ∧ ∀ x H', x ∈ xs → Off1 p H H' → PoolAt H' p c → Q x H'
theorem ok_law_pick (T : Txt K mg a) : FnOk P w K mg base CX0 3 a.a_law_pick a.d_law_pick ["pool", "rows"] spPick := by
  have G_law_take := ok_law_take (P := P) (w := w) (base := base) T
  refine T.F_law_pick.ok sc_law_pick (fun vs H Q E h => ?_) (fun cdv A outer s H vs Q E hr h => ?_)
  · obtain ⟨_, _, _, _, rfl, _⟩ := h
    rfl
  · obtain ⟨p, c, r, xs, rfl, hP, hr1, ne, h0, hl, q⟩ := h
    refine ⟨_, (pss_one (ps_ret (pe_ix ixH (pv 1) (pe_call G_law_take (hr.mono (by first | decide | exact Nat.le_refl _ | omega)) (by rfl) T.g_law_take T.F_law_take.kp T.b_law_take .nil pass0 (pa_cons (pv 0) (pa_cons (pe_callB callLen (by rfl) T.z_len PySem.boot_len (pa_cons (pv 1) pa_nil)) pa_nil))) (fun _ _ => rfl)))), ?_⟩
    simp only [tSeq, tAsg, tRet, tRetN, tDrop, tIfS, tNext, tNever, tOp, tUn, tVar, tC, rI0, rI, rU, tTest, tIf, tB, tAnd, tOr, tNot, tAndV, tOrV, tNotV, gName, gSub, gTupH, gCons, gNil, tYes, tCons, tNil, tLst, tTup, tCB, tCall, tMeth, tMake, tFld, sFld, tFor_c, tLc_c, iRng1, iList, iTup, iStr, iSeqB, iEnumB, tM1, tSl, tPart, tNoPart, rSlS, rIxS, tBM, rAppend, tIf, rEq, rNe, scal, hIx, hIxT, hIxB, hSet, hInt, hIntB, hLen, hLenT, hLenB, L2.start, wipe, List.map_cons, List.map_nil, List.set_cons_zero, List.set_cons_succ, List.set_nil, List.length_cons, List.length_nil, List.length_map, List.cons_append, List.nil_append, List.append_nil, List.replicate, List.getElem?_cons_zero, List.getElem?_cons_succ, Option.some.injEq, V.int.injEq, V.bl.injEq, V.ref.injEq, V.str.injEq, List.cons.injEq, exists_eq_left', exists_eq_left, exists_and_left, and_assoc, upd_same, upd_upd, HO.lst.injEq, HO.tup.injEq, atI_0, atI_1, atI_2, atI_3, set_1, set_2, set_3, CDiv, CPow, CMul, List.length_set, Int.reduceToNat, Int.reduceLE, Int.reduceLT, Int.reducePow, Int.reduceNeg, Nat.reduceAdd, Nat.reduceLT, Nat.reduceLeDiff, Nat.reducePow, Nat.zero_add, or_true, true_or, gt_iff_lt, ge_iff_le, and_true, true_and, decide_eq_true_eq, if_true, Bool.false_eq_true, if_false]
    have hpos : 0 < xs.length := List.length_pos_iff.mpr h0
    refine ⟨_, hr1, take_pool hP (by omega) (by omega) fun d H1 d0 d1 k1 _ p1 => ?_⟩
    refine ⟨_, _, rfl, k1 _ _ ne hr1, _, by rw [← Int.toNat_of_nonneg d0]; exact atI_nat (List.getElem?_eq_getElem (by omega)), ?_⟩
    exact q _ H1 (List.getElem_mem _) k1 p1
def spLPar : Sp := fun vs H Q _ => ∃ (p c : Addr) (n : Nat), vs = [.ref p, .int (n : Int)] ∧ PoolAt H p c ∧ ∀ m H', m < 64 → (n ≤ 6 → m < 2 ^ n) → Off1 p H H' → PoolAt H' p c → Q (.str (pt m)) H'
theorem ok_law_parity (T : Txt K mg a) : FnOk P w K mg base CX0 3 a.a_law_parity a.d_law_parity ["pool", "variables"] spLPar := by
  have G_law_take := ok_law_take (P := P) (w := w) (base := base) T
  refine T.F_law_parity.ok sc_law_parity (fun vs H Q E h => ?_) (fun cdv A outer s H vs Q E hr h => ?_)
  · obtain ⟨_, _, _, rfl, _⟩ := h
    rfl
  · obtain ⟨p, c, n, rfl, hP, q⟩ := h
    refine ⟨_, (pss_cons (ps_set (i := 2) sc_law_parity.nd rfl (.inl rfl) (pe_slice sl_str pe_str po_none (po_some (pv 1))))
      (pss_one (ps_ret (pe_join pe_str (pe_lc (own := [("letter", 3)]) (g := gName 3)  rfl sc_law_parity.nd (pi_str (pv 2)) (blkOk_by (own := [("letter", 3)]) (N := sc_law_parity_N) (sc := defScope s_law_parity) (by decide +kernel)) (fun _ _ _ _ _ => (pg_name (i := 3) sc_law_parity.nd rfl (.inl rfl))) (fun _ _ _ _ _ => (pts_one (pt_cmpR op_eq (pe_call G_law_take (hr.mono (by first | decide | exact Nat.le_refl _ | omega)) (by rfl) T.g_law_take T.F_law_take.kp T.b_law_take .nil pass0 (pa_cons (pv 0) (pa_cons pe_int pa_nil))) pe_int (nomark _)))) (fun _ _ _ _ _ => (pv 3))))))), ?_⟩
    simp only [tSeq, tAsg, tRet, tRetN, tDrop, tIfS, tNext, tNever, tOp, tUn, tVar, tC, rI0, rI, rU, tTest, tIf, tB, tAnd, tOr, tNot, tAndV, tOrV, tNotV, gName, gSub, gTupH, gCons, gNil, tYes, tCons, tNil, tLst, tTup, tCB, tCall, tMeth, tMake, tFld, sFld, tFor_c, tLc_c, iRng1, iList, iTup, iStr, iSeqB, iEnumB, tM1, tSl, tPart, tNoPart, rSlS, rIxS, tBM, rAppend, tIf, rEq, rNe, scal, hIx, hIxT, hIxB, hSet, hInt, hIntB, hLen, hLenT, hLenB, L2.start, wipe, List.map_cons, List.map_nil, List.set_cons_zero, List.set_cons_succ, List.set_nil, List.length_cons, List.length_nil, List.length_map, List.cons_append, List.nil_append, List.append_nil, List.replicate, List.getElem?_cons_zero, List.getElem?_cons_succ, Option.some.injEq, V.int.injEq, V.bl.injEq, V.ref.injEq, V.str.injEq, List.cons.injEq, exists_eq_left', exists_eq_left, exists_and_left, and_assoc, upd_same, upd_upd, HO.lst.injEq, HO.tup.injEq, atI_0, atI_1, atI_2, atI_3, set_1, set_2, set_3, CDiv, CPow, CMul, List.length_set, Int.reduceToNat, Int.reduceLE, Int.reduceLT, Int.reducePow, Int.reduceNeg, Nat.reduceAdd, Nat.reduceLT, Nat.reduceLeDiff, Nat.reducePow, Nat.zero_add, or_true, true_or, gt_iff_lt, ge_iff_le, and_true, true_and, decide_eq_true_eq, if_true, Bool.false_eq_true, if_false]
    have ej : Txt.join ("" : Str) = fun ys => Str.join Str.empty ys := funext fun ys => TL.join_eq _ ys
    refine ⟨by decide +kernel, ⟨_, rfl⟩, ?_⟩
    rw [show cutS (Str.ofString "abcdef") none (some (n : Int)) = tx (six.take n) from cut6]
    refine lcStr (x := tx (six.take n)) (fun i D H' => ∃ l : List Nat, H' D = some (.lst ((l.map fun c => tx [c]).map V.str)) ∧ l.Sublist ((six.take n).take i) ∧ Off1 p H H' ∧ PoolAt H' p c) ?_ ?_ ?_
    · intro D hD
      exact ⟨[], upd_same, List.nil_sublist _, Off1.refl.new hD, hP.new hD⟩
    · rintro i ch D H' hD hc ⟨l, eD, sub, k2, p2⟩
      have hc : (six.take n)[i]? = some ch := hc
      refine ⟨rfl, ?_⟩
      simp only [tSeq, tAsg, tRet, tRetN, tDrop, tIfS, tNext, tNever, tOp, tUn, tVar, tC, rI0, rI, rU, tTest, tIf, tB, tAnd, tOr, tNot, tAndV, tOrV, tNotV, gName, gSub, gTupH, gCons, gNil, tYes, tCons, tNil, tLst, tTup, tCB, tCall, tMeth, tMake, tFld, sFld, tFor_c, tLc_c, iRng1, iList, iTup, iStr, iSeqB, iEnumB, tM1, tSl, tPart, tNoPart, rSlS, rIxS, tBM, rAppend, tIf, rEq, rNe, scal, hIx, hIxT, hIxB, hSet, hInt, hIntB, hLen, hLenT, hLenB, L2.start, wipe, List.map_cons, List.map_nil, List.set_cons_zero, List.set_cons_succ, List.set_nil, List.length_cons, List.length_nil, List.length_map, List.cons_append, List.nil_append, List.append_nil, List.replicate, List.getElem?_cons_zero, List.getElem?_cons_succ, Option.some.injEq, V.int.injEq, V.bl.injEq, V.ref.injEq, V.str.injEq, List.cons.injEq, exists_eq_left', exists_eq_left, exists_and_left, and_assoc, upd_same, upd_upd, HO.lst.injEq, HO.tup.injEq, atI_0, atI_1, atI_2, atI_3, set_1, set_2, set_3, CDiv, CPow, CMul, List.length_set, Int.reduceToNat, Int.reduceLE, Int.reduceLT, Int.reducePow, Int.reduceNeg, Nat.reduceAdd, Nat.reduceLT, Nat.reduceLeDiff, Nat.reducePow, Nat.zero_add, or_true, true_or, gt_iff_lt, ge_iff_le, and_true, true_and, decide_eq_true_eq, if_true, Bool.false_eq_true, if_false]
      refine take_pool p2 (by decide) (by decide) fun d H1 d0 d1 k3 k3' p3 => ?_
      have hDp : D ≠ p := hP.ne_p hD
      have hDc : D ≠ c := hP.ne_c hD
      have eD3 : H1 D = some (.lst ((l.map fun c => tx [c]).map V.str)) := by rw [k3' D hDp]; exact eD
      refine ⟨rfl, ite2 (fun c1 => ?_) (fun c1 => ?_)⟩
      · refine ⟨_, eD3, ?_, l ++ [ch], ?_, ?_, (k2.tr k3).wr hD, p3.wr hDp hDc⟩
        · rw [List.length_map, List.length_map]
          have := (sub.trans ((List.take_sublist _ _).trans (List.take_sublist _ _))).length_le
          simp only [six, List.length_cons, List.length_nil] at this
          exact small1000 (by omega)
        · rw [List.map_append, List.map_append]
          rfl
        · rw [take_s hc]
          exact sub.append (List.Sublist.refl _)
      · refine ⟨l, eD3, ?_, k2.tr k3, p3⟩
        rw [take_s hc]
        exact sub.trans (List.sublist_append_left _ _)
    · rintro D H' hD ⟨l, eD, sub, k2, p2⟩
      have sub6' : l.Sublist six := sub.trans ((List.take_sublist _ _).trans (List.take_sublist _ _))
      refine ⟨D, rfl, l.map (fun c => tx [c]), .inl (SqL.of eD), ?_, ?_⟩
      · rw [sum_one, show (Str.ofString "").length = 0 from by decide +kernel, Nat.mul_zero]
        have := sub6'.length_le
        simp only [six, List.length_cons, List.length_nil] at this
        omega
      · rw [show Str.ofString "" = ("" : Str) from rfl, ej]
        simp only [join_tx]
        by_cases h6 : n ≤ 6
        · obtain ⟨m, hm, e⟩ := sub6v h6 (sub.trans (List.take_sublist _ _))
          rw [e]
          exact q m H' (Nat.lt_of_lt_of_le hm (Nat.pow_le_pow_right (n := 2) (by decide) h6)) (fun _ => hm) k2 p2
        · obtain ⟨m, hm, e⟩ := sub6 sub6'
          rw [e]
          exact q m H' hm (fun z => absurd z h6) k2 p2
def spLSum : Sp := fun vs H Q _ => ∃ (r : Addr) (m n : Nat), vs = [.ref r] ∧ H r = some (.lst [.str (pt m), .str (pt n)]) ∧ m < 64 ∧ n < 64 ∧ ∀ H', Same H H' → Q (.str (pt (m ^^^ n))) H'
theorem ok_law_sum (T : Txt K mg a) : FnOk P w K mg base CX0 1 a.a_law_sum a.d_law_sum ["texts"] spLSum := by
  refine T.F_law_sum.ok sc_law_sum (fun vs H Q E h => ?_) (fun cdv A outer s H vs Q E hr h => ?_)
  · obtain ⟨_, _, _, rfl, _⟩ := h
    rfl
  · obtain ⟨r, m, n, rfl, hr1, hm, hn, q⟩ := h
    refine ⟨_, (pss_cons (ps_set (i := 1) sc_law_sum.nd rfl (.inr rfl) (pe_join pe_str (pv 0)))
      (pss_one (ps_ret (pe_join pe_str (pe_lc (own := [("letter", 2)]) (g := gName 2)  rfl sc_law_sum.nd (pi_str pe_str) (blkOk_by (own := [("letter", 2)]) (N := sc_law_sum_N) (sc := defScope s_law_sum) (by decide +kernel)) (fun _ _ _ _ _ => (pg_name (i := 2) sc_law_sum.nd rfl (.inl rfl))) (fun _ _ _ _ _ => (pts_one (pt_cmpR op_eq (pe_op op_mod (pe_callTy callInt (by rfl) T.z_int (by decide +kernel) (pa_cons (pe_m1 PySem.F.slot_str_count PySem.F.type_str_count mt_count (pv 1) (pv 2)) pa_nil)) pe_int) pe_int (nomark _)))) (fun _ _ _ _ _ => (pv 2))))))), ?_⟩
    simp only [tSeq, tAsg, tRet, tRetN, tDrop, tIfS, tNext, tNever, tOp, tUn, tVar, tC, rI0, rI, rU, tTest, tIf, tB, tAnd, tOr, tNot, tAndV, tOrV, tNotV, gName, gSub, gTupH, gCons, gNil, tYes, tCons, tNil, tLst, tTup, tCB, tCall, tMeth, tMake, tFld, sFld, tFor_c, tLc_c, iRng1, iList, iTup, iStr, iSeqB, iEnumB, tM1, tSl, tPart, tNoPart, rSlS, rIxS, tBM, rAppend, tIf, rEq, rNe, scal, hIx, hIxT, hIxB, hSet, hInt, hIntB, hLen, hLenT, hLenB, L2.start, wipe, List.map_cons, List.map_nil, List.set_cons_zero, List.set_cons_succ, List.set_nil, List.length_cons, List.length_nil, List.length_map, List.cons_append, List.nil_append, List.append_nil, List.replicate, List.getElem?_cons_zero, List.getElem?_cons_succ, Option.some.injEq, V.int.injEq, V.bl.injEq, V.ref.injEq, V.str.injEq, List.cons.injEq, exists_eq_left', exists_eq_left, exists_and_left, and_assoc, upd_same, upd_upd, HO.lst.injEq, HO.tup.injEq, atI_0, atI_1, atI_2, atI_3, set_1, set_2, set_3, CDiv, CPow, CMul, List.length_set, Int.reduceToNat, Int.reduceLE, Int.reduceLT, Int.reducePow, Int.reduceNeg, Nat.reduceAdd, Nat.reduceLT, Nat.reduceLeDiff, Nat.reducePow, Nat.zero_add, or_true, true_or, gt_iff_lt, ge_iff_le, and_true, true_and, decide_eq_true_eq, if_true, Bool.false_eq_true, if_false]
    have ej : Txt.join ("" : Str) = fun ys => Str.join Str.empty ys := funext fun ys => TL.join_eq _ ys
    refine ⟨⟨_, rfl⟩, [pt m, pt n], .inl (SqL.of hr1), ?_, ⟨_, rfl⟩, ?_⟩
    · have l1 : (pt m).length ≤ 8 := pl_len m
      have l2 : (pt n).length ≤ 8 := pl_len n
      have l3 : (Str.ofString "").length = 0 := by decide +kernel
      simp only [List.map_cons, List.map_nil, List.sum_cons, List.sum_nil, l3, Nat.mul_zero]
      omega
    rw [show Txt.join (Str.ofString "") [pt m, pt n] = tx (pl m ++ pl n) from by
      rw [show Str.ofString "" = ("" : Str) from rfl, ej]
      show pt m ++ Str.empty ++ pt n = _
      rw [show Str.empty = tx [] from rfl, pt, pt, tx_app, tx_app, List.append_nil]]
    rw [show Str.ofString "abcdef" = tx six from six_tx]
    refine lcStr (x := tx six) (fun i D H' => H' D = some (.lst ((((six.take i).filter fun c => (m ^^^ n).testBit (c - 97)).map fun c => tx [c]).map V.str)) ∧ Same H H') (fun D hD => ⟨upd_same, same_new hD⟩) ?_ ?_
    · rintro i ch D H' hD hc ⟨eD, s1⟩
      have hc : six[i]? = some ch := hc
      refine ⟨rfl, ?_⟩
      simp only [tSeq, tAsg, tRet, tRetN, tDrop, tIfS, tNext, tNever, tOp, tUn, tVar, tC, rI0, rI, rU, tTest, tIf, tB, tAnd, tOr, tNot, tAndV, tOrV, tNotV, gName, gSub, gTupH, gCons, gNil, tYes, tCons, tNil, tLst, tTup, tCB, tCall, tMeth, tMake, tFld, sFld, tFor_c, tLc_c, iRng1, iList, iTup, iStr, iSeqB, iEnumB, tM1, tSl, tPart, tNoPart, rSlS, rIxS, tBM, rAppend, tIf, rEq, rNe, scal, hIx, hIxT, hIxB, hSet, hInt, hIntB, hLen, hLenT, hLenB, L2.start, wipe, List.map_cons, List.map_nil, List.set_cons_zero, List.set_cons_succ, List.set_nil, List.length_cons, List.length_nil, List.length_map, List.cons_append, List.nil_append, List.append_nil, List.replicate, List.getElem?_cons_zero, List.getElem?_cons_succ, Option.some.injEq, V.int.injEq, V.bl.injEq, V.ref.injEq, V.str.injEq, List.cons.injEq, exists_eq_left', exists_eq_left, exists_and_left, and_assoc, upd_same, upd_upd, HO.lst.injEq, HO.tup.injEq, atI_0, atI_1, atI_2, atI_3, set_1, set_2, set_3, CDiv, CPow, CMul, List.length_set, Int.reduceToNat, Int.reduceLE, Int.reduceLT, Int.reducePow, Int.reduceNeg, Nat.reduceAdd, Nat.reduceLT, Nat.reduceLeDiff, Nat.reducePow, Nat.zero_add, or_true, true_or, gt_iff_lt, ge_iff_le, and_true, true_and, decide_eq_true_eq, if_true, Bool.false_eq_true, if_false]
      have ec := cnt_xor hm hn (List.mem_of_getElem? hc)
      have ec2 : Txt.count (tx (pl m ++ pl n)) (tx [ch]) = (((pl m ++ pl n).count ch : Nat) : Int) := cnt_one _ _
      rw [ec2, take_s hc, List.filter_append]
      refine ⟨⟨_, rfl⟩, ?_⟩
      by_cases h : (pl m ++ pl n).count ch % 2 = 1
      · rw [decide_eq_true h] at ec
        rw [if_pos (by exact_mod_cast h), show [ch].filter (fun c => (m ^^^ n).testBit (c - 97)) = [ch] from by rw [List.filter_cons, ← ec]; rfl]
        refine ⟨_, eD, ?_, ?_, same_out s1 hD⟩
        · rw [List.length_map, List.length_map]
          refine small1000 (Nat.le_trans (List.length_filter_le _ _) ?_)
          rw [List.length_take]
          simp only [six, List.length_cons, List.length_nil]
          omega
        · rw [List.map_append, List.map_append]
          rfl
      · rw [decide_eq_false h] at ec
        rw [if_neg (fun z => h (by exact_mod_cast z)), show [ch].filter (fun c => (m ^^^ n).testBit (c - 97)) = [] from by rw [List.filter_cons, ← ec]; rfl, List.append_nil]
        exact ⟨eD, s1⟩
    · rintro D H' hD ⟨eD, s1⟩
      rw [show (lt (tx six)).length = six.length from rfl, List.take_of_length_le (Nat.le_refl _), ← pl6 (xor64 hm hn)] at eD
      refine ⟨D, rfl, _, .inl (SqL.of eD), ?_, ?_⟩
      · rw [sum_one, show (Str.ofString "").length = 0 from by decide +kernel, Nat.mul_zero]
        have := pl_len (m ^^^ n)
        omega
      · rw [show Str.ofString "" = ("" : Str) from rfl, ej]
        simp only [join_tx]
        exact q H' s1
def spShaped : Sp := fun vs H Q _ => ∃ (p c r : Addr) (xs : List V), vs = [.ref p, .ref r] ∧ PoolAt H p c ∧ H r = some (.lst xs) ∧ r ≠ p ∧ xs.length ≤ 900 ∧ ∀ t H', Off1 p H H' → PoolAt H' p c → RowAt H' t xs → t ≠ p → Q (.ref t) H'
theorem ok_law_shaped (T : Txt K mg a) : FnOk P w K mg base CX0 3 a.a_law_shaped a.d_law_shaped ["pool", "rows"] spShaped := by
  have G_law_take := ok_law_take (P := P) (w := w) (base := base) T
  refine T.F_law_shaped.ok sc_law_shaped (fun vs H Q E h => ?_) (fun cdv A outer s H vs Q E hr h => ?_)
  · obtain ⟨_, _, _, _, rfl, _⟩ := h
    rfl
  · obtain ⟨p, c, r, xs, rfl, hP, hr1, ne, hl, q⟩ := h
    refine ⟨_, (pss_one (ps_ret (pe_ix ixHT (pe_tup (pa_cons (pe_callTy callLstB (by rfl) T.z_list (by decide +kernel) (pa_cons (pv 1) pa_nil)) (pa_cons (pe_callTy callTupB (by rfl) T.z_tuple (by decide +kernel) (pa_cons (pv 1) pa_nil)) pa_nil))) (pe_call G_law_take (hr.mono (by first | decide | exact Nat.le_refl _ | omega)) (by rfl) T.g_law_take T.F_law_take.kp T.b_law_take .nil pass0 (pa_cons (pv 0) (pa_cons pe_int pa_nil))) (fun _ _ => rfl)))), ?_⟩
    simp only [tSeq, tAsg, tRet, tRetN, tDrop, tIfS, tNext, tNever, tOp, tUn, tVar, tC, rI0, rI, rU, tTest, tIf, tB, tAnd, tOr, tNot, tAndV, tOrV, tNotV, gName, gSub, gTupH, gCons, gNil, tYes, tCons, tNil, tLst, tTup, tCB, tCall, tMeth, tMake, tFld, sFld, tFor_c, tLc_c, iRng1, iList, iTup, iStr, iSeqB, iEnumB, tM1, tSl, tPart, tNoPart, rSlS, rIxS, tBM, rAppend, tIf, rEq, rNe, scal, hIx, hIxT, hIxB, hSet, hInt, hIntB, hLen, hLenT, hLenB, L2.start, wipe, List.map_cons, List.map_nil, List.set_cons_zero, List.set_cons_succ, List.set_nil, List.length_cons, List.length_nil, List.length_map, List.cons_append, List.nil_append, List.append_nil, List.replicate, List.getElem?_cons_zero, List.getElem?_cons_succ, Option.some.injEq, V.int.injEq, V.bl.injEq, V.ref.injEq, V.str.injEq, List.cons.injEq, exists_eq_left', exists_eq_left, exists_and_left, and_assoc, upd_same, upd_upd, HO.lst.injEq, HO.tup.injEq, atI_0, atI_1, atI_2, atI_3, set_1, set_2, set_3, CDiv, CPow, CMul, List.length_set, Int.reduceToNat, Int.reduceLE, Int.reduceLT, Int.reducePow, Int.reduceNeg, Nat.reduceAdd, Nat.reduceLT, Nat.reduceLeDiff, Nat.reducePow, Nat.zero_add, or_true, true_or, gt_iff_lt, ge_iff_le, and_true, true_and, decide_eq_true_eq, if_true, Bool.false_eq_true, if_false]
    refine ⟨r, xs, rfl, .inl hr1, fun D1 h1 => ?_⟩
    have s1 := same_new (o := .lst xs) h1
    refine ⟨r, xs, rfl, .inl (s1 _ _ hr1), fun D2 H2 s2 _ e2 => ?_⟩
    refine ⟨by decide, fun D3 h3 => ?_⟩
    have s3 := same_new (o := .tup [V.ref D1, V.ref D2]) h3
    have s13 := Same.tr (Same.tr s1 s2) s3
    have p3 := hP.same s13
    refine take_pool p3 (by decide) (by decide) fun d H4 d0 d1 k4 k4' p4 => ?_
    have n1 : D1 ≠ p := hP.ne_p h1
    have n2 : D2 ≠ p := fun z => by
      obtain ⟨_, _, _, _, e, _⟩ := (hP.same (Same.tr s1 s2)).ex
      rw [z, e] at e2
      cases e2
    have n3 : D3 ≠ p := (hP.same (Same.tr s1 s2)).ne_p h3
    have e3 : H4 D3 = some (.tup [V.ref D1, V.ref D2]) := by rw [k4' D3 n3]; exact upd_same
    have k : Off1 p H H4 := (Off1.of s13).tr k4
    have c : d = 0 ∨ d = 1 := by omega
    refine ⟨_, _, rfl, e3, ?_⟩
    rcases c with rfl | rfl
    · refine ⟨_, atI_0, q D1 H4 k p4 (.inl ?_) n1⟩
      rw [k4' D1 n1]
      exact s3 _ _ (s2 _ _ upd_same)
    · refine ⟨_, atI_1, q D2 H4 k p4 (.inr ?_) n2⟩
      rw [k4' D2 n2]
      exact s3 _ _ e2
end
end AK
set_option Elab.async false
set_option linter.all false
set_option maxRecDepth 100000
set_option maxHeartbeats 4000000
namespace AK
open PySem PySem.Spec PyProof.Rows L2
section
variable {P : Program} {w : World} {K : PySem.W.Frag} {mg : Str → Option Value} {base : Heap} {a : Ads}
def spLDer : Sp := fun vs H Q _ => ∃ (r : Addr) (ms : List Nat), vs = [.ref r] ∧ H r = some (.lst (ps ms)) ∧ (∀ m ∈ ms, m < 64) ∧ ms.length ≤ 900 ∧ ∀ (ys : List Str) D H', ys.Perm ((der ms).map pt) → sortedS ys = true → Same H H' → H D = none → H' D = some (.lst (ys.map V.str)) → Q (.ref D) H'
theorem ok_law_derived (T : Txt K mg a) : FnOk P w K mg base CX0 2 a.a_law_derived a.d_law_derived ["messages"] spLDer := by
  have G_law_sum := ok_law_sum (P := P) (w := w) (base := base) T
  refine T.F_law_derived.ok sc_law_derived (fun vs H Q E h => ?_) (fun cdv A outer s H vs Q E hr h => ?_)
  · obtain ⟨_, _, rfl, _⟩ := h
    rfl
  · obtain ⟨r, ms, rfl, hr1, hm, hl, q⟩ := h
    refine ⟨_, (pss_cons (ps_set (i := 1) sc_law_derived.nd rfl (.inl rfl) (pe_lst (pa_cons pe_str pa_nil)))
      (pss_cons (ps_for PassesOwn.never rfl (pi_list (pv 0)) (pg_name (i := 2) sc_law_derived.nd rfl (.inr rfl))
      (pss_one (ps_if (pt_cmpR op_notIn_seq (pv 2) (pv 1) (by rfl))
      (pss_one (ps_set (i := 1) sc_law_derived.nd rfl (.inl rfl) (pe_op op_cat (pv 1) (pe_lc (own := [("one", 3)]) (g := gName 3) (tt := tYes) rfl sc_law_derived.nd (pi_list (pv 1)) (blkOk_by (own := [("one", 3)]) (N := sc_law_derived_N) (sc := defScope s_law_derived) (by decide +kernel)) (fun _ _ _ _ _ => (pg_name (i := 3) sc_law_derived.nd rfl (.inl rfl))) (fun _ _ _ _ _ => pts_nil) (fun _ _ _ _ _ => (pe_call G_law_sum (hr.mono (by first | decide | exact Nat.le_refl _ | omega)) (by rfl) T.g_law_sum T.F_law_sum.kp T.b_law_sum .nil pass0 (pa_cons (pe_lst (pa_cons (pv 3) (pa_cons (pv 2) pa_nil))) pa_nil)))))))
      pss_nil)))
      (pss_one (ps_ret (pe_callB cr_sortedSA (by rfl) T.z_sorted (by decide +kernel) (pa_cons (pv 1) pa_nil)))))), ?_⟩
    simp only [tSeq, tAsg, tRet, tRetN, tDrop, tIfS, tNext, tNever, tOp, tUn, tVar, tC, rI0, rI, rU, tTest, tIf, tB, tAnd, tOr, tNot, tAndV, tOrV, tNotV, gName, gSub, gTupH, gCons, gNil, tYes, tCons, tNil, tLst, tTup, tCB, tCall, tMeth, tMake, tFld, sFld, tFor_c, tLc_c, iRng1, iList, iTup, iStr, iSeqB, iEnumB, tM1, tSl, tPart, tNoPart, rSlS, rIxS, tBM, rAppend, tIf, rEq, rNe, scal, hIx, hIxT, hIxB, hSet, hInt, hIntB, hLen, hLenT, hLenB, L2.start, wipe, List.map_cons, List.map_nil, List.set_cons_zero, List.set_cons_succ, List.set_nil, List.length_cons, List.length_nil, List.length_map, List.cons_append, List.nil_append, List.append_nil, List.replicate, List.getElem?_cons_zero, List.getElem?_cons_succ, Option.some.injEq, V.int.injEq, V.bl.injEq, V.ref.injEq, V.str.injEq, List.cons.injEq, exists_eq_left', exists_eq_left, exists_and_left, and_assoc, upd_same, upd_upd, HO.lst.injEq, HO.tup.injEq, atI_0, atI_1, atI_2, atI_3, set_1, set_2, set_3, CDiv, CPow, CMul, List.length_set, Int.reduceToNat, Int.reduceLE, Int.reduceLT, Int.reducePow, Int.reduceNeg, Nat.reduceAdd, Nat.reduceLT, Nat.reduceLeDiff, Nat.reducePow, Nat.zero_add, or_true, true_or, gt_iff_lt, ge_iff_le, and_true, true_and, decide_eq_true_eq, if_true, Bool.false_eq_true, if_false]
    refine ⟨by decide, fun F0 hF0 => ?_⟩
    have e0 : upd H F0 (.lst [V.str (Str.ofString "")]) F0 = some (.lst (ps ((ms.take 0).foldl dstep [0]))) := by
      rw [upd_same, show Str.ofString "" = pt 0 from pt0]
      rfl
    refine ⟨⟨_, SqL.of (same_new hF0 _ _ hr1)⟩, ?_⟩
    have lt6 : ∀ i, ∀ x ∈ (ms.take i).foldl dstep [0], x < 64 := fun i => der_lt fun m h => hm m (List.mem_of_mem_take h)
    have le6 : ∀ i, ((ms.take i).foldl dstep [0]).length ≤ 64 := fun i => der_len fun m h => hm m (List.mem_of_mem_take h)
    refine forLst (xs := ps ms) (fun i σ H' => ∃ (f : Addr) (v w : Option V), σ = [some (.ref r), some (.ref f), v, w] ∧ Same H H' ∧ H' f = some (.lst (ps ((ms.take i).foldl dstep [0])))) ⟨F0, none, none, rfl, same_new hF0, e0⟩ ?_ ?_ ?_
    · rintro i σ H' _ ⟨f, v, w, rfl, s1, _⟩
      exact SqL.of (s1 _ _ hr1)
    · rintro i x σ H' hx ⟨f, v, w, rfl, s1, ef⟩
      obtain ⟨m, hm1, rfl⟩ := ps_at hx
      have hm64 := hm m (List.mem_of_getElem? hm1)
      simp only [tSeq, tAsg, tRet, tRetN, tDrop, tIfS, tNext, tNever, tOp, tUn, tVar, tC, rI0, rI, rU, tTest, tIf, tB, tAnd, tOr, tNot, tAndV, tOrV, tNotV, gName, gSub, gTupH, gCons, gNil, tYes, tCons, tNil, tLst, tTup, tCB, tCall, tMeth, tMake, tFld, sFld, tFor_c, tLc_c, iRng1, iList, iTup, iStr, iSeqB, iEnumB, tM1, tSl, tPart, tNoPart, rSlS, rIxS, tBM, rAppend, tIf, rEq, rNe, scal, hIx, hIxT, hIxB, hSet, hInt, hIntB, hLen, hLenT, hLenB, L2.start, wipe, List.map_cons, List.map_nil, List.set_cons_zero, List.set_cons_succ, List.set_nil, List.length_cons, List.length_nil, List.length_map, List.cons_append, List.nil_append, List.append_nil, List.replicate, List.getElem?_cons_zero, List.getElem?_cons_succ, Option.some.injEq, V.int.injEq, V.bl.injEq, V.ref.injEq, V.str.injEq, List.cons.injEq, exists_eq_left', exists_eq_left, exists_and_left, and_assoc, upd_same, upd_upd, HO.lst.injEq, HO.tup.injEq, atI_0, atI_1, atI_2, atI_3, set_1, set_2, set_3, CDiv, CPow, CMul, List.length_set, Int.reduceToNat, Int.reduceLE, Int.reduceLT, Int.reducePow, Int.reduceNeg, Nat.reduceAdd, Nat.reduceLT, Nat.reduceLeDiff, Nat.reducePow, Nat.zero_add, or_true, true_or, gt_iff_lt, ge_iff_le, and_true, true_and, decide_eq_true_eq, if_true, Bool.false_eq_true, if_false]
      refine ⟨f, _, rfl, .inl (SqL.of ef), rfl, flat_ps _, _, rfl, ?_⟩
      rw [if_pos rfl, in_ps (by omega) (fun k hk => Nat.lt_of_lt_of_le (lt6 i k hk) (by decide))]
      have et : (ms.take (i + 1)).foldl dstep [0] = dstep ((ms.take i).foldl dstep [0]) m := by
        rw [take_s hm1, List.foldl_append]
        rfl
      rw [et]
      generalize hF : (ms.take i).foldl dstep [0] = F at ef ⊢
      have ltF : ∀ x ∈ F, x < 64 := hF ▸ lt6 i
      have leF : F.length ≤ 64 := hF ▸ le6 i
      unfold dstep
      by_cases h : m ∈ F
      · rw [decide_eq_true h, if_neg (show ¬(!true) = true by decide), if_pos h]
        exact ⟨s1, ef⟩
      · rw [decide_eq_false h, if_pos (show (!false) = true from rfl), if_neg h]
        refine ⟨⟨_, SqL.of ef⟩, ?_⟩
        refine lcLst (xs := ps F) (fun j D H2 => H2 D = some (.lst (ps ((F.take j).map (· ^^^ m)))) ∧ Same H' H2) (fun D hD => ⟨upd_same, same_new hD⟩) (fun j D H2 _ _ z => SqL.of (z.2 _ _ ef)) ?_ ?_
        · rintro j x D H2 hD hx ⟨eD, s2⟩
          obtain ⟨k, hk, rfl⟩ := ps_at hx
          refine ⟨rfl, ?_⟩
          simp only [tSeq, tAsg, tRet, tRetN, tDrop, tIfS, tNext, tNever, tOp, tUn, tVar, tC, rI0, rI, rU, tTest, tIf, tB, tAnd, tOr, tNot, tAndV, tOrV, tNotV, gName, gSub, gTupH, gCons, gNil, tYes, tCons, tNil, tLst, tTup, tCB, tCall, tMeth, tMake, tFld, sFld, tFor_c, tLc_c, iRng1, iList, iTup, iStr, iSeqB, iEnumB, tM1, tSl, tPart, tNoPart, rSlS, rIxS, tBM, rAppend, tIf, rEq, rNe, scal, hIx, hIxT, hIxB, hSet, hInt, hIntB, hLen, hLenT, hLenB, L2.start, wipe, List.map_cons, List.map_nil, List.set_cons_zero, List.set_cons_succ, List.set_nil, List.length_cons, List.length_nil, List.length_map, List.cons_append, List.nil_append, List.append_nil, List.replicate, List.getElem?_cons_zero, List.getElem?_cons_succ, Option.some.injEq, V.int.injEq, V.bl.injEq, V.ref.injEq, V.str.injEq, List.cons.injEq, exists_eq_left', exists_eq_left, exists_and_left, and_assoc, upd_same, upd_upd, HO.lst.injEq, HO.tup.injEq, atI_0, atI_1, atI_2, atI_3, set_1, set_2, set_3, CDiv, CPow, CMul, List.length_set, Int.reduceToNat, Int.reduceLE, Int.reduceLT, Int.reducePow, Int.reduceNeg, Nat.reduceAdd, Nat.reduceLT, Nat.reduceLeDiff, Nat.reducePow, Nat.zero_add, or_true, true_or, gt_iff_lt, ge_iff_le, and_true, true_and, decide_eq_true_eq, if_true, Bool.false_eq_true, if_false]
          refine ⟨by decide, fun t ht => ?_⟩
          refine ⟨t, k, m, rfl, upd_same, ltF k (List.mem_of_getElem? hk), hm64, fun H3 s3 => ?_⟩
          have s23 : Same H2 H3 := Same.tr (same_new ht) s3
          refine ⟨_, s23 _ _ eD, ?_, ?_, same_out (Same.tr s2 s23) hD⟩
          · rw [List.length_map, List.length_map, List.length_take]
            exact small1000 (by omega)
          · rw [take_s hk, List.map_append]
            show _ = ps (_ ++ [k ^^^ m])
            rw [ps, ps, List.map_append]
            rfl
        · rintro D H2 hD ⟨eD, s2⟩
          rw [show (ps F).length = F.length from List.length_map _, List.take_of_length_le (Nat.le_refl _)] at eD
          refine ⟨f, D, _, _, rfl, rfl, s2 _ _ ef, eD, ?_, fun G hG => ⟨G, rfl, ?_, ?_⟩⟩
          · rw [List.length_map, List.length_map, List.length_map]
            exact sizeLe (by omega)
          · exact Same.tr (Same.tr s1 s2) (same_new hG)
          · rw [upd_same, ps, ps, ps, List.map_append]
    · rintro σ H' ⟨f, v, w, rfl, s1, ef⟩
      rw [show (ps ms).length = ms.length from List.length_map _, List.take_of_length_le (Nat.le_refl _)] at ef
      simp only [tSeq, tAsg, tRet, tRetN, tDrop, tIfS, tNext, tNever, tOp, tUn, tVar, tC, rI0, rI, rU, tTest, tIf, tB, tAnd, tOr, tNot, tAndV, tOrV, tNotV, gName, gSub, gTupH, gCons, gNil, tYes, tCons, tNil, tLst, tTup, tCB, tCall, tMeth, tMake, tFld, sFld, tFor_c, tLc_c, iRng1, iList, iTup, iStr, iSeqB, iEnumB, tM1, tSl, tPart, tNoPart, rSlS, rIxS, tBM, rAppend, tIf, rEq, rNe, scal, hIx, hIxT, hIxB, hSet, hInt, hIntB, hLen, hLenT, hLenB, L2.start, wipe, List.map_cons, List.map_nil, List.set_cons_zero, List.set_cons_succ, List.set_nil, List.length_cons, List.length_nil, List.length_map, List.cons_append, List.nil_append, List.append_nil, List.replicate, List.getElem?_cons_zero, List.getElem?_cons_succ, Option.some.injEq, V.int.injEq, V.bl.injEq, V.ref.injEq, V.str.injEq, List.cons.injEq, exists_eq_left', exists_eq_left, exists_and_left, and_assoc, upd_same, upd_upd, HO.lst.injEq, HO.tup.injEq, atI_0, atI_1, atI_2, atI_3, set_1, set_2, set_3, CDiv, CPow, CMul, List.length_set, Int.reduceToNat, Int.reduceLE, Int.reduceLT, Int.reducePow, Int.reduceNeg, Nat.reduceAdd, Nat.reduceLT, Nat.reduceLeDiff, Nat.reducePow, Nat.zero_add, or_true, true_or, gt_iff_lt, ge_iff_le, and_true, true_and, decide_eq_true_eq, if_true, Bool.false_eq_true, if_false]
      refine ⟨f, (der ms).map pt, rfl, SqL.of (by rw [ef, ps, List.map_map]; rfl), fun ys D hp hs hD => ?_⟩
      exact q ys D _ hp hs (Same.tr s1 (same_new hD)) (s1.free hD) upd_same
end
end AK
set_option Elab.async false
set_option linter.all false
set_option maxRecDepth 100000
set_option maxHeartbeats 4000000
namespace AK
open PySem PySem.Spec PyProof.Rows L2
/-- an int's truth -/
def tTr (K : PySem.W.Frag) (ta : TE) : TT := fun σ H Q => ta σ H fun x H' => ∃ k, TruV K x H' k ∧ Q k H'
/-- a comprehension over enumerate(text) -/
theorem lcEnumS {g : TG} {σ : L2.St} {H : Hp} {tt : TT} {te : TE} {vs : List Nat} {Q : VK} {x : Str} (Pv : Nat → Addr → Hp → Prop) (h0 : ∀ D, H D = none → Pv 0 D (upd H D (.lst [])))
    (hs : ∀ i c t D H', H D = none → (lt x)[i]? = some c → Pv i D H' → H' t = none → g (.ref t) (wipe σ vs) (upd H' t (.tup [.int (i : Nat), .str (tx [c])])) fun σ2 H2 => wipe σ2 vs = wipe σ vs ∧ tt σ2 H2 fun b H3 => if b = true then te σ2 H3 fun y H4 => ∃ acc, H4 D = some (.lst acc) ∧ acc.length < sizeLine ∧ Pv (i + 1) D (upd H4 D (.lst (acc ++ [y]))) else Pv (i + 1) D H3)
    (hd : ∀ D H', H D = none → Pv (lt x).length D H' → Q (.ref D) H') : contL g tt te vs σ Q (IteS x) H := by
  intro D hD
  have hz : (lt x).length = x.cps.size := Array.length_toList ..
  refine ⟨fun i m H' => m = x.cps.size - i ∧ i ≤ x.cps.size ∧ Pv i D H', ⟨x.cps.size, by simp, Nat.zero_le _, h0 D hD⟩, ?_⟩
  rintro i m H' ⟨rfl, hi, p⟩
  by_cases hlt : i < x.cps.size
  · refine .inr ⟨hlt, fun H' => Pv (i + 1) D H', fun H' p' => ⟨x.cps.size - (i + 1), by omega, rfl, hlt, p'⟩, fun y H2 hy => ?_⟩
    obtain ⟨t, c, rfl, ht, rfl, hc⟩ := hy
    exact hs i c t D H' hD (by show x.cps.toList[i]? = some c; rw [Array.getElem?_toList]; exact hc) p ht
  · have e : i = x.cps.size := by omega
    subst e
    exact .inl ⟨Nat.le_refl _, hd D H' hD (by rw [hz]; exact p)⟩
theorem and_nat (m n : Nat) : Builtin.bitAnd (m : Int) (n : Int) = ((m &&& n : Nat) : Int) := by
  rw [bitAnd_pp (Int.natCast_nonneg m) (Int.natCast_nonneg n), Int.toNat_natCast, Int.toNat_natCast]
end AK
set_option Elab.async false
set_option linter.all false
set_option maxRecDepth 100000
set_option maxHeartbeats 4000000
namespace AK
open PySem PySem.Spec PyProof.Rows L2
theorem units65 {k : Nat} {A : Around} (r : Room k A) : A.units + 65 < cLine := by
  have := r.un
  omega
def oddB (m : Nat) : Bool := (List.range 64).all fun a => decide (((pl m).filter fun c => decide (c ∈ pl a)).length % 2 = 1) == od m a
theorem oddB_all : (List.range 64).all oddB = true := by decide +kernel
theorem odd_of {m a : Nat} (hm : m < 64) (ha : a < 64) : decide (((pl m).filter fun c => decide (c ∈ pl a)).length % 2 = 1) = od m a :=
  eq_of_beq (List.all_eq_true.mp (List.all_eq_true.mp oddB_all m (List.mem_range.mpr hm)) a (List.mem_range.mpr ha))
theorem snoc_all : (List.range 6).all (fun i => (List.range (2 ^ i)).all fun m => decide (pl m ++ [97 + i] = pl (m + 2 ^ i))) = true := by decide +kernel
theorem snoc_of {i m : Nat} (hi : i < 6) (hm : m < 2 ^ i) : pl m ++ [97 + i] = pl (m + 2 ^ i) :=
  of_decide_eq_true (List.all_eq_true.mp (List.all_eq_true.mp snoc_all i (List.mem_range.mpr hi)) m (List.mem_range.mpr hm))
section
variable {P : Program} {w : World} {K : PySem.W.Frag} {mg : Str → Option Value} {base : Heap} {a : Ads}
def spLOdd : Sp := fun vs H Q _ => ∃ m n : Nat, vs = [.str (pt m), .str (pt n)] ∧ m < 64 ∧ n < 64 ∧ ∀ H', Same H H' → Q (.bl (od m n)) H'
theorem ok_law_is_odd (T : Txt K mg a) : FnOk P w K mg base CX0 1 a.a_law_is_odd a.d_law_is_odd ["text", "assignment"] spLOdd := by
  refine T.F_law_is_odd.ok sc_law_is_odd (fun vs H Q E h => ?_) (fun cdv A outer s H vs Q E hr h => ?_)
  · obtain ⟨_, _, rfl, _⟩ := h
    rfl
  · obtain ⟨m, n, rfl, hm, hn, q⟩ := h
    refine ⟨_, (pss_one (ps_ret (pe_cmpR op_eq (pe_op op_mod (pe_callTy callInt (by rfl) T.z_int (by decide +kernel) (pa_cons (pe_callB callLen (by rfl) T.z_len PySem.boot_len (pa_cons (pe_lc (own := [("letter", 2)]) (g := gName 2)  rfl sc_law_is_odd.nd (pi_str (pv 0)) (blkOk_by (own := [("letter", 2)]) (N := sc_law_is_odd_N) (sc := defScope s_law_is_odd) (by decide +kernel)) (fun _ _ _ _ _ => (pg_name (i := 2) sc_law_is_odd.nd rfl (.inl rfl))) (fun _ _ _ _ _ => (pts_one (pt_cmpR op_in_sign (pv 2) (pv 1) rfl))) (fun _ _ _ _ _ => (pv 2))) pa_nil)) pa_nil)) pe_int) pe_int (nomark _)))), ?_⟩
    simp only [tSeq, tAsg, tRet, tRetN, tDrop, tIfS, tNext, tNever, tOp, tUn, tVar, tC, rI0, rI, rU, tTest, tIf, tB, tAnd, tOr, tNot, tAndV, tOrV, tNotV, gName, gSub, gTupH, gCons, gNil, tYes, tCons, tNil, tLst, tTup, tCB, tCall, tMeth, tMake, tFld, sFld, tFor_c, tLc_c, iRng1, iList, iTup, iStr, iSeqB, iEnumB, tM1, tSl, tPart, tNoPart, rSlS, rIxS, tBM, rAppend, tIf, rEq, rNe, scal, hIx, hIxT, hIxB, hSet, hInt, hIntB, hLen, hLenT, hLenB, L2.start, wipe, List.map_cons, List.map_nil, List.set_cons_zero, List.set_cons_succ, List.set_nil, List.length_cons, List.length_nil, List.length_map, List.cons_append, List.nil_append, List.append_nil, List.replicate, List.getElem?_cons_zero, List.getElem?_cons_succ, Option.some.injEq, V.int.injEq, V.bl.injEq, V.ref.injEq, V.str.injEq, List.cons.injEq, exists_eq_left', exists_eq_left, exists_and_left, and_assoc, upd_same, upd_upd, HO.lst.injEq, HO.tup.injEq, atI_0, atI_1, atI_2, atI_3, set_1, set_2, set_3, CDiv, CPow, CMul, List.length_set, Int.reduceToNat, Int.reduceLE, Int.reduceLT, Int.reducePow, Int.reduceNeg, Nat.reduceAdd, Nat.reduceLT, Nat.reduceLeDiff, Nat.reducePow, Nat.zero_add, or_true, true_or, gt_iff_lt, ge_iff_le, and_true, true_and, decide_eq_true_eq, if_true, Bool.false_eq_true, if_false]
    refine lcStr (x := pt m) (fun i D H' => H' D = some (.lst ((((pl m).take i).filter fun c => decide (c ∈ pl n)).map fun c => V.str (tx [c]))) ∧ Same H H') (fun D hD => ⟨upd_same, same_new hD⟩) ?_ ?_
    · rintro i c D H' hD hc ⟨eD, s1⟩
      have hc : (pl m)[i]? = some c := hc
      refine ⟨rfl, ?_⟩
      simp only [tSeq, tAsg, tRet, tRetN, tDrop, tIfS, tNext, tNever, tOp, tUn, tVar, tC, rI0, rI, rU, tTest, tIf, tB, tAnd, tOr, tNot, tAndV, tOrV, tNotV, gName, gSub, gTupH, gCons, gNil, tYes, tCons, tNil, tLst, tTup, tCB, tCall, tMeth, tMake, tFld, sFld, tFor_c, tLc_c, iRng1, iList, iTup, iStr, iSeqB, iEnumB, tM1, tSl, tPart, tNoPart, rSlS, rIxS, tBM, rAppend, tIf, rEq, rNe, scal, hIx, hIxT, hIxB, hSet, hInt, hIntB, hLen, hLenT, hLenB, L2.start, wipe, List.map_cons, List.map_nil, List.set_cons_zero, List.set_cons_succ, List.set_nil, List.length_cons, List.length_nil, List.length_map, List.cons_append, List.nil_append, List.append_nil, List.replicate, List.getElem?_cons_zero, List.getElem?_cons_succ, Option.some.injEq, V.int.injEq, V.bl.injEq, V.ref.injEq, V.str.injEq, List.cons.injEq, exists_eq_left', exists_eq_left, exists_and_left, and_assoc, upd_same, upd_upd, HO.lst.injEq, HO.tup.injEq, atI_0, atI_1, atI_2, atI_3, set_1, set_2, set_3, CDiv, CPow, CMul, List.length_set, Int.reduceToNat, Int.reduceLE, Int.reduceLT, Int.reducePow, Int.reduceNeg, Nat.reduceAdd, Nat.reduceLT, Nat.reduceLeDiff, Nat.reducePow, Nat.zero_add, or_true, true_or, gt_iff_lt, ge_iff_le, and_true, true_and, decide_eq_true_eq, if_true, Bool.false_eq_true, if_false]
      refine ⟨c, rfl, ?_⟩
      rw [take_s hc, List.filter_append]
      by_cases h : c ∈ pl n
      · rw [if_pos (show c ∈ (pt n).cps.toList from h), show [c].filter (fun c => decide (c ∈ pl n)) = [c] from by rw [List.filter_cons, if_pos (decide_eq_true h)]; rfl]
        refine ⟨_, eD, ?_, ?_, same_out s1 hD⟩
        · rw [List.length_map]
          refine small1000 (Nat.le_trans (List.length_filter_le _ _) ?_)
          rw [List.length_take]
          have := pl_len m
          omega
        · rw [List.map_append]
          rfl
      · rw [if_neg (show ¬ c ∈ (pt n).cps.toList from h), show [c].filter (fun c => decide (c ∈ pl n)) = [] from by rw [List.filter_cons, if_neg (fun z => h (of_decide_eq_true z))]; rfl, List.append_nil]
        exact ⟨eD, s1⟩
    · rintro D H' hD ⟨eD, s1⟩
      rw [show (lt (pt m)).length = (pl m).length from rfl, List.take_of_length_le (Nat.le_refl _)] at eD
      refine ⟨D, rfl, _, eD, ?_⟩
      rw [List.length_map]
      have e := odd_of hm hn
      have e2 : decide ((((pl m).filter fun c => decide (c ∈ pl n)).length : Int) % 2 = 1) = od m n := by
        rw [← e]
        rw [decide_eq_decide]
        omega
      rw [e2]
      exact q H' s1
def spLCases : Sp := fun vs H Q _ => ∃ v : Nat, vs = [.int (v : Int)] ∧ v ≤ 6 ∧ ∀ D H', Same H H' → H D = none → H' D = some (.lst (ps (List.range (2 ^ v)))) → Q (.ref D) H'
theorem ok_law_assignments (T : Txt K mg a) : FnOk P w K mg base CX0 1 a.a_law_assignments a.d_law_assignments ["variables"] spLCases := by
  refine T.F_law_assignments.ok sc_law_assignments (fun vs H Q E h => ?_) (fun cdv A outer s H vs Q E hr h => ?_)
  · obtain ⟨_, rfl, _⟩ := h
    rfl
  · obtain ⟨v, rfl, hv, q⟩ := h
    refine ⟨_, (pss_cons (ps_set (i := 1) sc_law_assignments.nd rfl (.inl rfl) (pe_lst (pa_cons pe_str pa_nil)))
      (pss_cons (ps_for PassesOwn.never rfl (pi_str (pe_slice sl_str pe_str po_none (po_some (pv 0)))) (pg_name (i := 2) sc_law_assignments.nd rfl (.inr rfl))
      (pss_one (ps_set (i := 1) sc_law_assignments.nd rfl (.inl rfl) (pe_op op_cat (pv 1) (pe_lc (own := [("one", 3)]) (g := gName 3) (tt := tYes) rfl sc_law_assignments.nd (pi_list (pv 1)) (blkOk_by (own := [("one", 3)]) (N := sc_law_assignments_N) (sc := defScope s_law_assignments) (by decide +kernel)) (fun _ _ _ _ _ => (pg_name (i := 3) sc_law_assignments.nd rfl (.inl rfl))) (fun _ _ _ _ _ => pts_nil) (fun _ _ _ _ _ => (pe_op op_add_str (pv 3) (pv 2))))))))
      (pss_one (ps_ret (pv 1))))), ?_⟩
    simp only [tSeq, tAsg, tRet, tRetN, tDrop, tIfS, tNext, tNever, tOp, tUn, tVar, tC, rI0, rI, rU, tTest, tIf, tB, tAnd, tOr, tNot, tAndV, tOrV, tNotV, gName, gSub, gTupH, gCons, gNil, tYes, tCons, tNil, tLst, tTup, tCB, tCall, tMeth, tMake, tFld, sFld, tFor_c, tLc_c, iRng1, iList, iTup, iStr, iSeqB, iEnumB, tM1, tSl, tPart, tNoPart, rSlS, rIxS, tBM, rAppend, tIf, rEq, rNe, scal, hIx, hIxT, hIxB, hSet, hInt, hIntB, hLen, hLenT, hLenB, L2.start, wipe, List.map_cons, List.map_nil, List.set_cons_zero, List.set_cons_succ, List.set_nil, List.length_cons, List.length_nil, List.length_map, List.cons_append, List.nil_append, List.append_nil, List.replicate, List.getElem?_cons_zero, List.getElem?_cons_succ, Option.some.injEq, V.int.injEq, V.bl.injEq, V.ref.injEq, V.str.injEq, List.cons.injEq, exists_eq_left', exists_eq_left, exists_and_left, and_assoc, upd_same, upd_upd, HO.lst.injEq, HO.tup.injEq, atI_0, atI_1, atI_2, atI_3, set_1, set_2, set_3, CDiv, CPow, CMul, List.length_set, Int.reduceToNat, Int.reduceLE, Int.reduceLT, Int.reducePow, Int.reduceNeg, Nat.reduceAdd, Nat.reduceLT, Nat.reduceLeDiff, Nat.reducePow, Nat.zero_add, or_true, true_or, gt_iff_lt, ge_iff_le, and_true, true_and, decide_eq_true_eq, if_true, Bool.false_eq_true, if_false]
    refine ⟨by decide, fun F0 hF0 => ⟨by decide +kernel, ?_⟩⟩
    rw [show cutS (Str.ofString "abcdef") none (some (v : Int)) = tx (six.take v) from cut6]
    have e0 : upd H F0 (.lst [V.str (Str.ofString "")]) F0 = some (.lst (ps (List.range (2 ^ 0)))) := by
      rw [upd_same, show Str.ofString "" = pt 0 from pt0]
      rfl
    refine forStr (x := tx (six.take v)) (fun i σ H' => ∃ (f : Addr) (v2 v3 : Option V), σ = [some (.int (v : Int)), some (.ref f), v2, v3] ∧ Same H H' ∧ H f = none ∧ H' f = some (.lst (ps (List.range (2 ^ i))))) ⟨F0, none, none, rfl, same_new hF0, hF0, e0⟩ ?_ ?_
    · rintro i c σ H' hc ⟨f, v2, v3, rfl, s1, nf, ef⟩
      have hc : (six.take v)[i]? = some c := hc
      have hi : i < 6 := by
        have := (List.getElem?_eq_some_iff.mp hc).1
        rw [List.length_take] at this
        simp only [six, List.length_cons, List.length_nil] at this
        omega
      have ec : c = 97 + i := by
        have z : ∀ i < 6, six[i]? = some (97 + i) := by decide
        rw [List.getElem?_take] at hc
        split at hc
        · rw [z i hi] at hc
          exact (Option.some.inj hc).symm
        · cases hc
      have p2 : 2 ^ i ≤ 64 := Nat.pow_le_pow_right (n := 2) (by decide) (by omega : i ≤ 6)
      simp only [tSeq, tAsg, tRet, tRetN, tDrop, tIfS, tNext, tNever, tOp, tUn, tVar, tC, rI0, rI, rU, tTest, tIf, tB, tAnd, tOr, tNot, tAndV, tOrV, tNotV, gName, gSub, gTupH, gCons, gNil, tYes, tCons, tNil, tLst, tTup, tCB, tCall, tMeth, tMake, tFld, sFld, tFor_c, tLc_c, iRng1, iList, iTup, iStr, iSeqB, iEnumB, tM1, tSl, tPart, tNoPart, rSlS, rIxS, tBM, rAppend, tIf, rEq, rNe, scal, hIx, hIxT, hIxB, hSet, hInt, hIntB, hLen, hLenT, hLenB, L2.start, wipe, List.map_cons, List.map_nil, List.set_cons_zero, List.set_cons_succ, List.set_nil, List.length_cons, List.length_nil, List.length_map, List.cons_append, List.nil_append, List.append_nil, List.replicate, List.getElem?_cons_zero, List.getElem?_cons_succ, Option.some.injEq, V.int.injEq, V.bl.injEq, V.ref.injEq, V.str.injEq, List.cons.injEq, exists_eq_left', exists_eq_left, exists_and_left, and_assoc, upd_same, upd_upd, HO.lst.injEq, HO.tup.injEq, atI_0, atI_1, atI_2, atI_3, set_1, set_2, set_3, CDiv, CPow, CMul, List.length_set, Int.reduceToNat, Int.reduceLE, Int.reduceLT, Int.reducePow, Int.reduceNeg, Nat.reduceAdd, Nat.reduceLT, Nat.reduceLeDiff, Nat.reducePow, Nat.zero_add, or_true, true_or, gt_iff_lt, ge_iff_le, and_true, true_and, decide_eq_true_eq, if_true, Bool.false_eq_true, if_false]
      refine ⟨⟨_, SqL.of ef⟩, ?_⟩
      refine lcLst (xs := ps (List.range (2 ^ i))) (fun j D H2 => H2 D = some (.lst (ps ((List.range j).map (2 ^ i + ·)))) ∧ Same H' H2) (fun D hD => ⟨upd_same, same_new hD⟩) (fun j D H2 _ _ z => SqL.of (z.2 _ _ ef)) ?_ ?_
      · rintro j x D H2 hD hx ⟨eD, s2⟩
        obtain ⟨k, hk, rfl⟩ := ps_at hx
        have hik : k = j ∧ j < 2 ^ i := by
          obtain ⟨h1, h2⟩ := List.getElem?_eq_some_iff.mp hk
          rw [List.length_range] at h1
          rw [List.getElem_range] at h2
          exact ⟨h2.symm, h1⟩
        obtain ⟨rfl, hj⟩ := hik
        refine ⟨rfl, ?_⟩
        simp only [tSeq, tAsg, tRet, tRetN, tDrop, tIfS, tNext, tNever, tOp, tUn, tVar, tC, rI0, rI, rU, tTest, tIf, tB, tAnd, tOr, tNot, tAndV, tOrV, tNotV, gName, gSub, gTupH, gCons, gNil, tYes, tCons, tNil, tLst, tTup, tCB, tCall, tMeth, tMake, tFld, sFld, tFor_c, tLc_c, iRng1, iList, iTup, iStr, iSeqB, iEnumB, tM1, tSl, tPart, tNoPart, rSlS, rIxS, tBM, rAppend, tIf, rEq, rNe, scal, hIx, hIxT, hIxB, hSet, hInt, hIntB, hLen, hLenT, hLenB, L2.start, wipe, List.map_cons, List.map_nil, List.set_cons_zero, List.set_cons_succ, List.set_nil, List.length_cons, List.length_nil, List.length_map, List.cons_append, List.nil_append, List.append_nil, List.replicate, List.getElem?_cons_zero, List.getElem?_cons_succ, Option.some.injEq, V.int.injEq, V.bl.injEq, V.ref.injEq, V.str.injEq, List.cons.injEq, exists_eq_left', exists_eq_left, exists_and_left, and_assoc, upd_same, upd_upd, HO.lst.injEq, HO.tup.injEq, atI_0, atI_1, atI_2, atI_3, set_1, set_2, set_3, CDiv, CPow, CMul, List.length_set, Int.reduceToNat, Int.reduceLE, Int.reduceLT, Int.reducePow, Int.reduceNeg, Nat.reduceAdd, Nat.reduceLT, Nat.reduceLeDiff, Nat.reducePow, Nat.zero_add, or_true, true_or, gt_iff_lt, ge_iff_le, and_true, true_and, decide_eq_true_eq, if_true, Bool.false_eq_true, if_false]
        have es : pt k ++ (⟨#[c]⟩ : Str) = pt (2 ^ i + k) := by
          rw [show (⟨#[c]⟩ : Str) = tx [c] from rfl, ec, pt, tx_app, snoc_of hi hj, Nat.add_comm]
          rfl
        refine ⟨?_, _, eD, ?_, ?_, same_out s2 hD⟩
        · have := pl_len k
          show (pl k).length + 1 ≤ _
          exact sizeLe (by omega)
        · rw [List.length_map, List.length_map, List.length_range]
          exact small1000 (by omega)
        · rw [es, List.range_succ, List.map_append]
          show _ = ps (_ ++ [2 ^ i + k])
          rw [ps, ps, List.map_append]
          rfl
      · rintro D H2 hD ⟨eD, s2⟩
        rw [List.length_map, List.length_range] at eD
        refine ⟨f, D, _, _, rfl, rfl, s2 _ _ ef, eD, ?_, fun G hG => ⟨G, rfl, Same.tr (Same.tr s1 s2) (same_new hG), (Same.tr s1 s2).free hG, ?_⟩⟩
        · rw [List.length_map, List.length_map, List.length_map, List.length_range]
          exact sizeLe (by omega)
        · rw [upd_same, Nat.pow_succ, Nat.mul_two, List.range_add, ps, ps, ps, List.map_append]
    · rintro σ H' ⟨f, v2, v3, rfl, s1, nf, ef⟩
      have l6 : (tx (six.take v)).cps.toList.length = v := by
        show (six.take v).length = v
        rw [List.length_take]
        simp only [six, List.length_cons, List.length_nil]
        omega
      rw [l6] at ef
      simp only [tSeq, tAsg, tRet, tRetN, tDrop, tIfS, tNext, tNever, tOp, tUn, tVar, tC, rI0, rI, rU, tTest, tIf, tB, tAnd, tOr, tNot, tAndV, tOrV, tNotV, gName, gSub, gTupH, gCons, gNil, tYes, tCons, tNil, tLst, tTup, tCB, tCall, tMeth, tMake, tFld, sFld, tFor_c, tLc_c, iRng1, iList, iTup, iStr, iSeqB, iEnumB, tM1, tSl, tPart, tNoPart, rSlS, rIxS, tBM, rAppend, tIf, rEq, rNe, scal, hIx, hIxT, hIxB, hSet, hInt, hIntB, hLen, hLenT, hLenB, L2.start, wipe, List.map_cons, List.map_nil, List.set_cons_zero, List.set_cons_succ, List.set_nil, List.length_cons, List.length_nil, List.length_map, List.cons_append, List.nil_append, List.append_nil, List.replicate, List.getElem?_cons_zero, List.getElem?_cons_succ, Option.some.injEq, V.int.injEq, V.bl.injEq, V.ref.injEq, V.str.injEq, List.cons.injEq, exists_eq_left', exists_eq_left, exists_and_left, and_assoc, upd_same, upd_upd, HO.lst.injEq, HO.tup.injEq, atI_0, atI_1, atI_2, atI_3, set_1, set_2, set_3, CDiv, CPow, CMul, List.length_set, Int.reduceToNat, Int.reduceLE, Int.reduceLT, Int.reducePow, Int.reduceNeg, Nat.reduceAdd, Nat.reduceLT, Nat.reduceLeDiff, Nat.reducePow, Nat.zero_add, or_true, true_or, gt_iff_lt, ge_iff_le, and_true, true_and, decide_eq_true_eq, if_true, Bool.false_eq_true, if_false]
      exact q f H' s1 nf ef
end
end AK
set_option Elab.async false
set_option linter.all false
set_option maxRecDepth 100000
set_option maxHeartbeats 4000000
namespace AK
open PySem PySem.Spec PyProof.Rows L2
/-! ### what assignments tell apart -/
def kfN (ms : List Nat) (x : Nat) : NestedKey := .tup (ms.map fun r => .num (if od r x = true then 1 else 0))
theorem kf_iff : ∀ (ms : List Nat) (x y : Nat), kfN ms x = kfN ms y ↔ ∀ r ∈ ms, od r x = od r y
  | [], x, y => ⟨fun _ r hr => (nomatch hr), fun _ => rfl⟩
  | m :: ms, x, y => by
    have ih := kf_iff ms x y
    unfold kfN at ih ⊢
    constructor
    · intro h
      rw [List.map_cons, List.map_cons, NestedKey.tup.injEq, List.cons.injEq] at h
      obtain ⟨h1, h2⟩ := h
      intro r hr
      rcases List.mem_cons.mp hr with z | z
      · rw [z]
        cases e1 : od m x <;> cases e2 : od m y <;> rw [e1, e2] at h1 <;> first | rfl | cases h1
      · exact ih.mp (by rw [h2]) r z
    · intro h
      have h2 := ih.mpr fun r hr => h r (List.mem_cons_of_mem _ hr)
      rw [NestedKey.tup.injEq] at h2
      rw [List.map_cons, List.map_cons, h m List.mem_cons_self, h2]
theorem kf_depth (ms : List Nat) (x : Nat) : (kfN ms x).depth ≤ 8 := by
  have : ∀ l : List Nat, NestedKey.depthAll (l.map fun r => .num (if od r x = true then 1 else 0)) ≤ 1 := by
    intro l
    induction l with
    | nil => simp [NestedKey.depthAll]
    | cons m l ih =>
      rw [List.map_cons]
      simp [NestedKey.depthAll, NestedKey.depth] at ih ⊢
      omega
  have := this ms
  simp [kfN, NestedKey.depth]
  omega
/-- two assignments are told apart by what they make of the messages if and only if the parity can't be derived -/
theorem apart_iff {v : Nat} {ms : List Nat} {m : Nat} (hv : v ≤ 8) (hms : ∀ r ∈ ms, r < 2 ^ v) (hm : m < 2 ^ v) : (∃ x y, x < 2 ^ v ∧ y < 2 ^ v ∧ kfN ms x = kfN ms y ∧ od m x ≠ od m y) ↔ ¬ S ms m := by
  constructor
  · rintro ⟨x, y, _, _, hk, hne⟩ hS
    have h := (kf_iff ms x y).mp hk
    have z := od_S ms (x ^^^ y) m (fun r hr => by rw [od_r, h r hr, Bool.xor_self]) hS
    rw [od_r] at z
    refine hne ?_
    cases e1 : od m x <;> cases e2 : od m y <;> rw [e1, e2] at z <;> first | rfl | cases z
  · intro hS
    have hg := good_spn ms [] trivial
    have hq : rem (spn ms []) m ≠ 0 := fun z => hS ((S_spn0 ms m).mp ((rem_zero hg m).mp z))
    have hlt : ∀ r ∈ spn ms [], r < 2 ^ v := fun r hr => S_lt ms r hms ((S_spn0 ms r).mp (S_mem _ r hr))
    have hx := rem_S (spn ms []) m
    have hql : rem (spn ms []) m < 2 ^ v := by
      have z := Nat.xor_lt_two_pow (n := v) hm (S_lt _ _ hlt hx)
      rw [← Nat.xor_assoc, Nat.xor_self, Nat.zero_xor] at z
      exact z
    obtain ⟨a, ha, h1, h2⟩ := sep hv (spn ms []) (rem (spn ms []) m) hg (clean_rem _ m hg) hq hlt hql
    have h3 := (od_spn ms a).mp h2
    refine ⟨a, 0, ha, Nat.two_pow_pos v, (kf_iff ms a 0).mpr fun r hr => by rw [h3 r hr, od_z], ?_⟩
    have z := od_S (spn ms []) a _ h2 hx
    rw [od_l, h1] at z
    rw [od_z]
    intro e
    rw [e] at z
    cases z
theorem nks_of {H : Hp} (x : Nat) : ∀ ms : List Nat, NKs H (ms.map fun r => .num (if od r x = true then 1 else 0)) (ms.map fun r => V.bl (od r x))
  | [] => by rw [List.map_nil, List.map_nil, NKs]
  | m :: ms => by
    rw [List.map_cons, List.map_cons, NKs]
    exact ⟨_, _, rfl, by rw [NK]; exact .inr ⟨_, rfl, rfl⟩, nks_of x ms⟩
end AK
set_option Elab.async false
set_option linter.all false
set_option maxRecDepth 100000
set_option maxHeartbeats 4000000
namespace AK
open PySem PySem.Spec PyProof.Rows L2
section
variable {P : Program} {w : World} {K : PySem.W.Frag} {mg : Str → Option Value} {base : Heap} {a : Ads}
def spLTold : Sp := fun vs H Q _ => ∃ (v : Nat) (r : Addr) (ms : List Nat) (m : Nat), vs = [.int (v : Int), .ref r, .str (pt m)] ∧ H r = some (.lst (ps ms)) ∧ v ≤ 6 ∧ (∀ x ∈ ms, x < 2 ^ v) ∧ m < 2 ^ v ∧ ms.length ≤ 200 ∧ ∀ H', Same H H' → Q (.bl (!decide (m ∈ der ms))) H'
theorem ok_law_is_told_apart (T : Txt K mg a) : FnOk P w K mg base CX0 2 a.a_law_is_told_apart a.d_law_is_told_apart ["variables", "messages", "parity"] spLTold := by
  have G_law_is_odd := ok_law_is_odd (P := P) (w := w) (base := base) T
  have G_law_assignments := ok_law_assignments (P := P) (w := w) (base := base) T
  refine T.F_law_is_told_apart.ok sc_law_is_told_apart (fun vs H Q E h => ?_) (fun cdv A0 outer s0 H vs Q E hr h => ?_)
  · obtain ⟨_, _, _, _, rfl, _⟩ := h
    rfl
  · obtain ⟨v, r, ms, m, rfl, er, hv, hms, hm, hl, q⟩ := h
    refine ⟨_, (pss_cons (ps_set (i := 3) sc_law_is_told_apart.nd rfl (.inl rfl) pe_nnew)
      (pss_cons (ps_for PassesOwn.never rfl (pi_list (pe_call G_law_assignments (hr.mono (by first | decide | exact Nat.le_refl _ | omega)) (by rfl) T.g_law_assignments T.F_law_assignments.kp T.b_law_assignments .nil pass0 (pa_cons (pv 0) pa_nil))) (pg_name (i := 4) sc_law_is_told_apart.nd rfl (.inr rfl))
      (pss_cons (ps_set (i := 5) sc_law_is_told_apart.nd rfl (.inl rfl) (pe_callTy callTupB (by rfl) T.z_tuple (by decide +kernel) (pa_cons (pe_lc (own := [("message", 7)]) (g := gName 7) (tt := tYes) (te := tCall spLOdd [] E0 (tCons (tVar 7) (tCons (tVar 4) tNil)))  rfl sc_law_is_told_apart.nd (pi_list (pv 1)) (blkOk_by (own := [("message", 7)]) (N := sc_law_is_told_apart_N) (sc := defScope s_law_is_told_apart) (by decide +kernel)) (fun _ _ _ _ _ => (pg_name (i := 7) sc_law_is_told_apart.nd rfl (.inl rfl))) (fun _ _ _ _ _ => pts_nil) (fun _ _ _ _ _ => (pe_call G_law_is_odd (hr.mono (by first | decide | exact Nat.le_refl _ | omega)) (by rfl) T.g_law_is_odd T.F_law_is_odd.kp T.b_law_is_odd .nil pass0 (pa_cons (pv 7) (pa_cons (pv 4) pa_nil))))) pa_nil)))
      (pss_cons (ps_set (i := 6) sc_law_is_told_apart.nd rfl (.inl rfl) (pe_call G_law_is_odd (hr.mono (by first | decide | exact Nat.le_refl _ | omega)) (by rfl) T.g_law_is_odd T.F_law_is_odd.kp T.b_law_is_odd .nil pass0 (pa_cons (pv 2) (pa_cons (pv 4) pa_nil))))
      (pss_cons (ps_if (PW.pt (pw_and (pt_cmp (pc_nin hr.units (pv 5) (pv 3))) (pw_and1 (pt_cmpR op_ne (pe_nget hr.units (pv 3) (pv 5) (fun _ _ => rfl)) (pv 6) (nomark _)))))
      (pss_one (ps_ret pe_bl))
      pss_nil)
      (pss_one (ps_nput hr.units (pv 3) (pv 5) (pv 6) rfl))))))
      (pss_one (ps_ret pe_bl)))), ?_⟩
    unfold tNew
    simp only [gStr2, gSeqH, tDc_c, tDGet, sDPut, rCat, tBreak, rExtend, tSeq, tAsg, tRet, tRetN, tDrop, tIfS, tNext, tNever, tOp, tUn, tVar, tC, rI0, rI, rU, tTest, tIf, tB, tAnd, tOr, tNot, tAndV, tOrV, tNotV, gName, gSub, gTupH, gCons, gNil, tYes, tCons, tNil, tLst, tTup, tCB, tCall, tMeth, tMake, tFld, sFld, tFor_c, tLc_c, iRng1, iList, iTup, iStr, iSeqB, iEnumB, tM1, tSl, tPart, tNoPart, rSlS, rIxS, tBM, rAppend, tIf, rEq, rNe, scal, hIx, hIxT, hIxB, hSet, hInt, hIntB, hLen, hLenT, hLenB, L2.start, wipe, List.map_cons, List.map_nil, List.set_cons_zero, List.set_cons_succ, List.set_nil, List.length_cons, List.length_nil, List.length_map, List.cons_append, List.nil_append, List.append_nil, List.replicate, List.getElem?_cons_zero, List.getElem?_cons_succ, Option.some.injEq, V.int.injEq, V.bl.injEq, V.ref.injEq, V.str.injEq, List.cons.injEq, exists_eq_left', exists_eq_left, exists_and_left, and_assoc, upd_same, upd_upd, HO.lst.injEq, HO.tup.injEq, atI_0, atI_1, atI_2, atI_3, set_1, set_2, set_3, CDiv, CPow, CMul, List.length_set, Int.reduceToNat, Int.reduceLE, Int.reduceLT, Int.reducePow, Int.reduceNeg, Nat.reduceAdd, Nat.reduceLT, Nat.reduceLeDiff, Nat.reducePow, Nat.zero_add, or_true, true_or, gt_iff_lt, ge_iff_le, and_true, true_and, decide_eq_true_eq, if_true, Bool.false_eq_true, if_false]
    have p64 : ∀ x, x < 2 ^ v → x < 64 := fun x hx => Nat.lt_of_lt_of_le hx (Nat.pow_le_pow_right (n := 2) (by decide) hv)
    have p64' : 2 ^ v ≤ 64 := Nat.pow_le_pow_right (n := 2) (by decide) hv
    refine fun d hd H1 N1 s1 _ => ⟨v, rfl, hv, fun D H2 s2 nD eD => ⟨D, rfl, ⟨_, SqL.of eD⟩, ?_⟩⟩
    have N1 : NDict P w H1 d [] := N1
    have s02 := Same.tr s1 s2
    have dD : D ≠ d := fun z => by
      obtain ⟨xs, e, _, _⟩ := N1.ex
      rw [z, e] at nD
      cases nD
    have hN2 : NDict P w H2 d [] := N1.same s2
    refine forLst (xs := ps (List.range (2 ^ v))) (fun i σ H' => (∃ v4 v5 v6 v7, σ = [some (.int (v : Int)), some (.ref r), some (.str (pt m)), some (.ref d), v4, v5, v6, v7]) ∧ Same H H' ∧ H' D = some (.lst (ps (List.range (2 ^ v)))) ∧
      ∃ kvs, NDict P w H' d kvs ∧ kvs.length ≤ i ∧ (∀ j, j < i → valV kvs (kfN ms j) = some (.bl (od m j))) ∧ ∀ k x, valV kvs k = some x → ∃ j, j < i ∧ k = kfN ms j ∧ x = .bl (od m j)) ⟨⟨_, _, _, _, rfl⟩, s02, eD, [], hN2, Nat.le_refl _, (fun j hj => absurd hj (Nat.not_lt_zero _)), fun k x z => by rw [valV_nil] at z; cases z⟩ (fun i σ H' _ z => SqL.of z.2.2.1) ?_ ?_
    · rintro i x σ H' hx ⟨⟨v4, v5, v6, v7, rfl⟩, s3, eD3, kvs, hN, lk, g1, g2⟩
      obtain ⟨i', hi', rfl⟩ := ps_at hx
      have hii : i' = i ∧ i < 2 ^ v := by
        obtain ⟨h1, h2⟩ := List.getElem?_eq_some_iff.mp hi'
        rw [List.length_range] at h1
        rw [List.getElem_range] at h2
        exact ⟨h2.symm, h1⟩
      obtain ⟨rfl, hi⟩ := hii
      unfold tNIn tNGet sNPut
      simp only [gStr2, gSeqH, tDc_c, tDGet, sDPut, rCat, tBreak, rExtend, tSeq, tAsg, tRet, tRetN, tDrop, tIfS, tNext, tNever, tOp, tUn, tVar, tC, rI0, rI, rU, tTest, tIf, tB, tAnd, tOr, tNot, tAndV, tOrV, tNotV, gName, gSub, gTupH, gCons, gNil, tYes, tCons, tNil, tLst, tTup, tCB, tCall, tMeth, tMake, tFld, sFld, tFor_c, tLc_c, iRng1, iList, iTup, iStr, iSeqB, iEnumB, tM1, tSl, tPart, tNoPart, rSlS, rIxS, tBM, rAppend, tIf, rEq, rNe, scal, hIx, hIxT, hIxB, hSet, hInt, hIntB, hLen, hLenT, hLenB, L2.start, wipe, List.map_cons, List.map_nil, List.set_cons_zero, List.set_cons_succ, List.set_nil, List.length_cons, List.length_nil, List.length_map, List.cons_append, List.nil_append, List.append_nil, List.replicate, List.getElem?_cons_zero, List.getElem?_cons_succ, Option.some.injEq, V.int.injEq, V.bl.injEq, V.ref.injEq, V.str.injEq, List.cons.injEq, exists_eq_left', exists_eq_left, exists_and_left, and_assoc, upd_same, upd_upd, HO.lst.injEq, HO.tup.injEq, atI_0, atI_1, atI_2, atI_3, set_1, set_2, set_3, CDiv, CPow, CMul, List.length_set, Int.reduceToNat, Int.reduceLE, Int.reduceLT, Int.reducePow, Int.reduceNeg, Nat.reduceAdd, Nat.reduceLT, Nat.reduceLeDiff, Nat.reducePow, Nat.zero_add, or_true, true_or, gt_iff_lt, ge_iff_le, and_true, true_and, decide_eq_true_eq, if_true, Bool.false_eq_true, if_false]
      refine ⟨⟨_, SqL.of (s3 _ _ er)⟩, ?_⟩
      refine lcLst (xs := ps ms) (fun j D' H2 => H2 D' = some (.lst ((ms.take j).map fun r => V.bl (od r i'))) ∧ Same H' H2) (fun D' hD => ⟨upd_same, same_new hD⟩) (fun j D' H2 _ _ z => SqL.of (z.2 _ _ (s3 _ _ er))) ?_ ?_
      · rintro j x D' H2 hD hx ⟨eD', s4⟩
        obtain ⟨m1, hm1, rfl⟩ := ps_at hx
        have hmm := hms _ (List.mem_of_getElem? hm1)
        refine ⟨rfl, ?_⟩
        simp only [gStr2, gSeqH, tDc_c, tDGet, sDPut, rCat, tBreak, rExtend, tSeq, tAsg, tRet, tRetN, tDrop, tIfS, tNext, tNever, tOp, tUn, tVar, tC, rI0, rI, rU, tTest, tIf, tB, tAnd, tOr, tNot, tAndV, tOrV, tNotV, gName, gSub, gTupH, gCons, gNil, tYes, tCons, tNil, tLst, tTup, tCB, tCall, tMeth, tMake, tFld, sFld, tFor_c, tLc_c, iRng1, iList, iTup, iStr, iSeqB, iEnumB, tM1, tSl, tPart, tNoPart, rSlS, rIxS, tBM, rAppend, tIf, rEq, rNe, scal, hIx, hIxT, hIxB, hSet, hInt, hIntB, hLen, hLenT, hLenB, L2.start, wipe, List.map_cons, List.map_nil, List.set_cons_zero, List.set_cons_succ, List.set_nil, List.length_cons, List.length_nil, List.length_map, List.cons_append, List.nil_append, List.append_nil, List.replicate, List.getElem?_cons_zero, List.getElem?_cons_succ, Option.some.injEq, V.int.injEq, V.bl.injEq, V.ref.injEq, V.str.injEq, List.cons.injEq, exists_eq_left', exists_eq_left, exists_and_left, and_assoc, upd_same, upd_upd, HO.lst.injEq, HO.tup.injEq, atI_0, atI_1, atI_2, atI_3, set_1, set_2, set_3, CDiv, CPow, CMul, List.length_set, Int.reduceToNat, Int.reduceLE, Int.reduceLT, Int.reducePow, Int.reduceNeg, Nat.reduceAdd, Nat.reduceLT, Nat.reduceLeDiff, Nat.reducePow, Nat.zero_add, or_true, true_or, gt_iff_lt, ge_iff_le, and_true, true_and, decide_eq_true_eq, if_true, Bool.false_eq_true, if_false]
        refine ⟨m1, i', rfl, p64 _ hmm, p64 _ hi, fun H3 s5 => ⟨_, s5 _ _ eD', by rw [List.length_map, List.length_take]; exact small1000 (by omega), ?_, same_out (Same.tr s4 s5) hD⟩⟩
        rw [take_s hm1, List.map_append]
        rfl
      rintro D' H2 hD ⟨eD', s4⟩
      rw [List.length_map, List.take_of_length_le (Nat.le_refl _)] at eD'
      refine ⟨D', _, rfl, .inl eD', fun t H3 s5 _ eT => ?_⟩
      refine ⟨m, i', rfl, p64 _ hm, p64 _ hi, fun H4 s6 => ?_⟩
      have s46 := Same.tr s4 (Same.tr s5 s6)
      have N4 := hN.same s46
      have eT4 := s6 _ _ eT
      have isk : IsK H4 (kfN ms i') (.ref t) t := ⟨rfl, by rw [kfN, NK]; exact ⟨t, _, rfl, eT4, nks_of i' ms⟩, kf_depth ms i'⟩
      refine ⟨kvs, N4, kfN ms i', t, isk, ?_⟩
      have key : valV kvs (kfN ms i') = none ∨ ∃ j, j < i' ∧ kfN ms i' = kfN ms j ∧ valV kvs (kfN ms i') = some (.bl (od m j)) := by
        cases e : valV kvs (kfN ms i') with
        | none => exact .inl rfl
        | some y =>
          obtain ⟨j, hj, e1, e2⟩ := g2 _ _ e
          exact .inr ⟨j, hj, e1, by rw [e2]⟩
      have put : (∀ j, j < i' → kfN ms i' = kfN ms j → od m j = od m i') → ∃ x_4, NDict P w H4 d x_4 ∧ ∃ x_5 x_6, IsK H4 x_5 (.ref t) x_6 ∧ x_4.length < sizeLine ∧ ∀ G, NDict P w G d (putK x_4 x_5 (V.bl (od m i'))) → (∀ c, c ≠ d → G c = H4 c) → (∃ x, v7 = x) ∧ Same H G ∧ G D = some (HO.lst (ps (List.range (2 ^ v)))) ∧
          ∃ kvs, NDict P w G d kvs ∧ kvs.length ≤ i' + 1 ∧ (∀ j, j < i' + 1 → valV kvs (kfN ms j) = some (V.bl (od m j))) ∧ ∀ k x, valV kvs k = some x → ∃ j, j < i' + 1 ∧ k = kfN ms j ∧ x = V.bl (od m j) := by
        intro hc
        refine ⟨kvs, N4, kfN ms i', t, isk, Nat.lt_of_le_of_lt (show kvs.length ≤ 64 by omega) (by decide), fun G NG kG => ⟨⟨_, rfl⟩, fun b o e => ?_, ?_, _, NG, ?_, fun j hj => ?_, fun k x e => ?_⟩⟩
        · rw [kG b (ne_of_none e hd)]
          exact s46 _ _ (s3 _ _ e)
        · rw [kG D dD]
          exact s46 _ _ eD3
        · have := length_putK kvs (kfN ms i') (V.bl (od m i'))
          omega
        · rw [valV_put]
          by_cases c : kfN ms j = kfN ms i'
          · rw [if_pos c]
            rcases Nat.lt_succ_iff_lt_or_eq.mp hj with z | z
            · rw [hc j z c.symm]
            · rw [z]
          · rw [if_neg c]
            rcases Nat.lt_succ_iff_lt_or_eq.mp hj with z | z
            · exact g1 j z
            · exact absurd (by rw [z]) c
        · rw [valV_put] at e
          split at e
          · rename_i c
            exact ⟨i', by omega, c, (Option.some.inj e).symm⟩
          · obtain ⟨j, hj, e1, e2⟩ := g2 k x e
            exact ⟨j, by omega, e1, e2⟩
      rcases key with hk | ⟨j, hj, ek, hk⟩
      · rw [hk]
        refine iteF (put fun j hj e => ?_)
        rw [e, g1 j hj] at hk
        cases hk
      · rw [hk]
        refine iteT ⟨kvs, N4, kfN ms i', t, isk, _, hk, rfl, ?_⟩
        by_cases c : od m j = od m i'
        · rw [c, decide_eq_true rfl]
          refine iteF (put fun j2 hj2 e => ?_)
          have z := g1 j2 hj2
          rw [← e, hk] at z
          rw [← V.bl.inj (Option.some.inj z)]
          exact c
        · rw [show decide (V.bl (od m j) = V.bl (od m i')) = false from decide_eq_false fun z => c (V.bl.inj z)]
          refine iteT ?_
          have z := q H4 (Same.tr s3 s46)
          rw [show decide (m ∈ der ms) = false from decide_eq_false fun y => (apart_iff (by omega) hms hm).mp ⟨i', j, hi, by omega, ek, fun e => c e.symm⟩ ((der_mem ms m).mp y)] at z
          exact z
    · rintro σ H' ⟨⟨v4, v5, v6, v7, rfl⟩, s3, eD3, kvs, hN, lk, g1, g2⟩
      have lr : (ps (List.range (2 ^ v))).length = 2 ^ v := by rw [List.length_map, List.length_range]
      rw [lr] at g1
      simp only [gStr2, gSeqH, tDc_c, tDGet, sDPut, rCat, tBreak, rExtend, tSeq, tAsg, tRet, tRetN, tDrop, tIfS, tNext, tNever, tOp, tUn, tVar, tC, rI0, rI, rU, tTest, tIf, tB, tAnd, tOr, tNot, tAndV, tOrV, tNotV, gName, gSub, gTupH, gCons, gNil, tYes, tCons, tNil, tLst, tTup, tCB, tCall, tMeth, tMake, tFld, sFld, tFor_c, tLc_c, iRng1, iList, iTup, iStr, iSeqB, iEnumB, tM1, tSl, tPart, tNoPart, rSlS, rIxS, tBM, rAppend, tIf, rEq, rNe, scal, hIx, hIxT, hIxB, hSet, hInt, hIntB, hLen, hLenT, hLenB, L2.start, wipe, List.map_cons, List.map_nil, List.set_cons_zero, List.set_cons_succ, List.set_nil, List.length_cons, List.length_nil, List.length_map, List.cons_append, List.nil_append, List.append_nil, List.replicate, List.getElem?_cons_zero, List.getElem?_cons_succ, Option.some.injEq, V.int.injEq, V.bl.injEq, V.ref.injEq, V.str.injEq, List.cons.injEq, exists_eq_left', exists_eq_left, exists_and_left, and_assoc, upd_same, upd_upd, HO.lst.injEq, HO.tup.injEq, atI_0, atI_1, atI_2, atI_3, set_1, set_2, set_3, CDiv, CPow, CMul, List.length_set, Int.reduceToNat, Int.reduceLE, Int.reduceLT, Int.reducePow, Int.reduceNeg, Nat.reduceAdd, Nat.reduceLT, Nat.reduceLeDiff, Nat.reducePow, Nat.zero_add, or_true, true_or, gt_iff_lt, ge_iff_le, and_true, true_and, decide_eq_true_eq, if_true, Bool.false_eq_true, if_false]
      have z := q H' s3
      rw [show decide (m ∈ der ms) = true from decide_eq_true ((der_mem ms m).mpr ?_)] at z
      · exact z
      · refine Classical.byContradiction fun hS => ?_
        obtain ⟨x, y, hx, hy, e1, e2⟩ := (apart_iff (by omega) hms hm).mpr hS
        have z1 := g1 x hx
        have z2 := g1 y hy
        rw [e1, z2] at z1
        exact e2 (V.bl.inj (Option.some.inj z1)).symm
end
end AK
set_option Elab.async false
set_option linter.all false
set_option maxRecDepth 100000
set_option maxHeartbeats 4000000
namespace AK
open PySem PySem.Spec PyProof.Rows L2
def jn (K : PySem.W.Frag) : V → List V → Hp → VK → Prop := fun x xs H Q => ∃ a p, ∃ ys : List Str, x = .str a ∧ xs = [.ref p] ∧ (SqL K H p (ys.map V.str) ∨ SqT K H p (ys.map V.str)) ∧
  (ys.map (·.length)).sum + ys.length * a.length ≤ 16777216 ∧ Q (.str (Txt.join a ys)) H
def lcm (b : Bool) (c : Nat) : Nat := if b = true ∧ 101 ≤ c then c + 2 else c
def ltr (b : Bool) : Str := if b = true then "abcdgh" else "abcdef"
def lmB (b : Bool) (m : Nat) : Bool := decide ((pl m).map (lcm b) = pl (lm b m)) && (pl m).all fun c => decide (97 ≤ c) && decide (c ≤ 102)
theorem lmB_all : (List.range 64).all (fun m => lmB true m && lmB false m) = true := by decide +kernel
theorem lmB_of (b : Bool) {m : Nat} (h : m < 64) : (pl m).map (lcm b) = pl (lm b m) ∧ ∀ c ∈ pl m, 97 ≤ c ∧ c ≤ 102 := by
  have z := List.all_eq_true.mp lmB_all m (List.mem_range.mpr h)
  rw [Bool.and_eq_true] at z
  have y : lmB b m = true := by
    cases b
    · exact z.2
    · exact z.1
  unfold lmB at y
  rw [Bool.and_eq_true] at y
  refine ⟨of_decide_eq_true y.1, fun c hc => ?_⟩
  have q := List.all_eq_true.mp y.2 c hc
  rw [Bool.and_eq_true] at q
  exact ⟨of_decide_eq_true q.1, of_decide_eq_true q.2⟩
theorem ltr_all : (List.range 6).all (fun k => decide ((ltr true).cps.toList[k]? = some (lcm true (97 + k))) && decide ((ltr false).cps.toList[k]? = some (lcm false (97 + k)))) = true := by decide +kernel
theorem ltr_at (b : Bool) {c : Nat} (h1 : 97 ≤ c) (h2 : c ≤ 102) : (ltr b).cps.toList[c - 97]? = some (lcm b c) := by
  have z := List.all_eq_true.mp ltr_all (c - 97) (List.mem_range.mpr (by omega))
  rw [Bool.and_eq_true, show 97 + (c - 97) = c from by omega] at z
  cases b
  · exact of_decide_eq_true z.2
  · exact of_decide_eq_true z.1
theorem ltr_len (b : Bool) : (ltr b).length ≤ sizeLine := by
  cases b <;> decide +kernel
theorem ix6_all : (List.range 6).all (fun k => decide (Txt.index0 ("abcdef" : Str) (tx [97 + k]) = some k)) = true := by decide +kernel
theorem ix6 {c : Nat} (h1 : 97 ≤ c) (h2 : c ≤ 102) : Txt.index0 ("abcdef" : Str) (tx [c]) = some (c - 97) := by
  have z := of_decide_eq_true (List.all_eq_true.mp ix6_all (c - 97) (List.mem_range.mpr (by omega)))
  rw [show 97 + (c - 97) = c from by omega] at z
  exact z
section
variable {P : Program} {w : World} {K : PySem.W.Frag} {mg : Str → Option Value} {base : Heap} {a : Ads}
def spLLet : Sp := fun vs H Q _ => ∃ (p c r : Addr) (ms : List Nat), vs = [.ref p, .ref r] ∧ PoolAt H p c ∧ H r = some (.lst (ps ms)) ∧ r ≠ p ∧ (∀ m ∈ ms, m < 64) ∧ ms.length ≤ 20 ∧
  ∀ b D H', Off1 p H H' → PoolAt H' p c → H' D = some (.lst (ps (ms.map (lm b)))) → D ≠ p → Q (.ref D) H'
theorem ok_law_lettered (T : Txt K mg a) : FnOk P w K mg base CX0 3 a.a_law_lettered a.d_law_lettered ["pool", "messages"] spLLet := by
  have G_law_take := ok_law_take (P := P) (w := w) (base := base) T
  refine T.F_law_lettered.ok sc_law_lettered (fun vs H Q E h => ?_) (fun cdv A outer s H vs Q E hr h => ?_)
  · obtain ⟨_, _, _, _, rfl, _⟩ := h
    rfl
  · obtain ⟨p, c, r, ms, rfl, hP, hr1, ne, hm, hl, q⟩ := h
    refine ⟨_, (pss_cons (ps_set (i := 2) sc_law_lettered.nd rfl (.inr rfl) (pe_ix ixHT (pe_tup (pa_cons pe_str (pa_cons pe_str pa_nil))) (pe_call G_law_take (hr.mono (by first | decide | exact Nat.le_refl _ | omega)) (by rfl) T.g_law_take T.F_law_take.kp T.b_law_take .nil pass0 (pa_cons (pv 0) (pa_cons pe_int pa_nil))) (fun _ _ => rfl)))
      (pss_one (ps_ret (pe_lc (own := [("text", 4)]) (g := gName 4) (tt := tYes) (te := tM1 (jn K) (tC (.str "")) (tLc (iStr (tVar 4)) (gName 3) tYes (tOp rIxS (tVar 2) (tBMS K "str" (rIndexX (fun _ _ _ _ => False)) (tC (.str "abcdef")) (tCons (tVar 3) tNil))) [3]))  rfl sc_law_lettered.nd (pi_list (pv 1)) (blkOk_by (own := [("text", 4)]) (N := sc_law_lettered_N) (sc := defScope s_law_lettered) (by decide +kernel)) (fun _ _ _ _ _ => (pg_name (i := 4) sc_law_lettered.nd rfl (.inl rfl))) (fun _ _ _ _ _ => pts_nil) (fun _ _ _ _ _ => by exact (pe_join pe_str (pe_lc (own := [("letter", 3)]) (g := gName 3) (tt := tYes) (te := tOp rIxS (tVar 2) (tBMS K "str" (rIndexX (fun _ _ _ _ => False)) (tC (.str "abcdef")) (tCons (tVar 3) tNil)))  rfl sc_law_lettered.nd (pi_str (pv 4)) (blkOk_by (own := [("letter", 3)]) (N := sc_law_lettered_N) (sc := { kind := PySem.ScopeKind.function, names := [ (PySem.Str.ofString ".0", PySem.NameKind.local), (PySem.Str.ofString "text", PySem.NameKind.local), (PySem.Str.ofString "letters", PySem.NameKind.cell)], isGenerator := false, isCoroutine := false, more := [] : PySem.Scope }) (by decide +kernel)) (fun _ _ _ _ _ => (pg_name (i := 3) sc_law_lettered.nd rfl (.inl rfl))) (fun _ _ _ _ _ => pts_nil) (fun _ _ _ _ _ => by exact (pe_ix ix_str (pv 2) (pe_bmS PySem.F.plainAttrs_str PySem.F.slot_str_index PySem.F.type_str_index (mt_indexX rfl takes0) pe_str (pa_cons (pv 3) pa_nil)) (fun _ _ => rfl)))))))))), ?_⟩
    simp only [tSeq, tAsg, tRet, tRetN, tDrop, tIfS, tNext, tNever, tOp, tUn, tVar, tC, rI0, rI, rU, tTest, tIf, tB, tAnd, tOr, tNot, tAndV, tOrV, tNotV, gName, gSub, gTupH, gCons, gNil, tYes, tCons, tNil, tLst, tTup, tCB, tCall, tMeth, tMake, tFld, sFld, tFor_c, tLc_c, iRng1, iList, iTup, iStr, iSeqB, iEnumB, tM1, tSl, tPart, tNoPart, rSlS, rIxS, tBM, rAppend, tIf, rEq, rNe, scal, hIx, hIxT, hIxB, hSet, hInt, hIntB, hLen, hLenT, hLenB, L2.start, wipe, List.map_cons, List.map_nil, List.set_cons_zero, List.set_cons_succ, List.set_nil, List.length_cons, List.length_nil, List.length_map, List.cons_append, List.nil_append, List.append_nil, List.replicate, List.getElem?_cons_zero, List.getElem?_cons_succ, Option.some.injEq, V.int.injEq, V.bl.injEq, V.ref.injEq, V.str.injEq, List.cons.injEq, exists_eq_left', exists_eq_left, exists_and_left, and_assoc, upd_same, upd_upd, HO.lst.injEq, HO.tup.injEq, atI_0, atI_1, atI_2, atI_3, set_1, set_2, set_3, CDiv, CPow, CMul, List.length_set, Int.reduceToNat, Int.reduceLE, Int.reduceLT, Int.reducePow, Int.reduceNeg, Nat.reduceAdd, Nat.reduceLT, Nat.reduceLeDiff, Nat.reducePow, Nat.zero_add, or_true, true_or, gt_iff_lt, ge_iff_le, and_true, true_and, decide_eq_true_eq, if_true, Bool.false_eq_true, if_false]
    refine ⟨by decide, fun D0 h0 => ?_⟩
    have s0 := same_new (o := .tup [V.str (Str.ofString "abcdef"), V.str (Str.ofString "abcdgh")]) h0
    have p0 := hP.same s0
    refine take_pool p0 (by decide) (by decide) fun d H4 d0 d1 k4 k4' p4 => ?_
    have n0 : D0 ≠ p := hP.ne_p h0
    have e0 : H4 D0 = some (.tup [V.str (Str.ofString "abcdef"), V.str (Str.ofString "abcdgh")]) := by rw [k4' D0 n0]; exact upd_same
    have k : Off1 p H H4 := (Off1.of s0).tr k4
    have er : H4 r = some (.lst (ps ms)) := k _ _ ne hr1
    have sel : ∃ b : Bool, atI [V.str (Str.ofString "abcdef"), V.str (Str.ofString "abcdgh")] d = some (V.str (ltr b)) := by
      have c : d = 0 ∨ d = 1 := by omega
      rcases c with rfl | rfl
      · exact ⟨false, atI_0⟩
      · exact ⟨true, atI_1⟩
    obtain ⟨b, hb⟩ := sel
    refine ⟨_, _, rfl, e0, _, hb, ⟨_, SqL.of er⟩, ?_⟩
    have ej : Txt.join ("" : Str) = fun ys => Str.join Str.empty ys := funext fun ys => TL.join_eq _ ys
    refine lcLst (xs := ps ms) (fun i D H2 => H2 D = some (.lst (ps ((ms.take i).map (lm b)))) ∧ Same H4 H2) (fun D hD => ⟨upd_same, same_new hD⟩) (fun i D H2 _ _ z => SqL.of (z.2 _ _ er)) ?_ ?_
    · rintro i x D H2 hD hx ⟨eD, s2⟩
      obtain ⟨m, hm1, rfl⟩ := ps_at hx
      have hm64 := hm m (List.mem_of_getElem? hm1)
      obtain ⟨l1, l2⟩ := lmB_of b hm64
      refine ⟨rfl, ?_⟩
      unfold tM1 jn
      simp only [tSeq, tAsg, tRet, tRetN, tDrop, tIfS, tNext, tNever, tOp, tUn, tVar, tC, rI0, rI, rU, tTest, tIf, tB, tAnd, tOr, tNot, tAndV, tOrV, tNotV, gName, gSub, gTupH, gCons, gNil, tYes, tCons, tNil, tLst, tTup, tCB, tCall, tMeth, tMake, tFld, sFld, tFor_c, tLc_c, iRng1, iList, iTup, iStr, iSeqB, iEnumB, tM1, tSl, tPart, tNoPart, rSlS, rIxS, tBM, rAppend, tIf, rEq, rNe, scal, hIx, hIxT, hIxB, hSet, hInt, hIntB, hLen, hLenT, hLenB, L2.start, wipe, List.map_cons, List.map_nil, List.set_cons_zero, List.set_cons_succ, List.set_nil, List.length_cons, List.length_nil, List.length_map, List.cons_append, List.nil_append, List.append_nil, List.replicate, List.getElem?_cons_zero, List.getElem?_cons_succ, Option.some.injEq, V.int.injEq, V.bl.injEq, V.ref.injEq, V.str.injEq, List.cons.injEq, exists_eq_left', exists_eq_left, exists_and_left, and_assoc, upd_same, upd_upd, HO.lst.injEq, HO.tup.injEq, atI_0, atI_1, atI_2, atI_3, set_1, set_2, set_3, CDiv, CPow, CMul, List.length_set, Int.reduceToNat, Int.reduceLE, Int.reduceLT, Int.reducePow, Int.reduceNeg, Nat.reduceAdd, Nat.reduceLT, Nat.reduceLeDiff, Nat.reducePow, Nat.zero_add, or_true, true_or, gt_iff_lt, ge_iff_le, and_true, true_and, decide_eq_true_eq, if_true, Bool.false_eq_true, if_false]
      refine ⟨⟨_, rfl⟩, ?_⟩
      refine lcStr (x := pt m) (fun j D' H3 => H3 D' = some (.lst (((((pl m).take j).map (lcm b)).map fun c => tx [c]).map V.str)) ∧ Same H2 H3) (fun D hD => ⟨upd_same, same_new hD⟩) ?_ ?_
      · rintro j c D' H3 hD' hc ⟨eD', s3⟩
        have hc : (pl m)[j]? = some c := hc
        obtain ⟨c1, c2⟩ := l2 c (List.mem_of_getElem? hc)
        refine ⟨rfl, ?_⟩
        simp only [tSeq, tAsg, tRet, tRetN, tDrop, tIfS, tNext, tNever, tOp, tUn, tVar, tC, rI0, rI, rU, tTest, tIf, tB, tAnd, tOr, tNot, tAndV, tOrV, tNotV, gName, gSub, gTupH, gCons, gNil, tYes, tCons, tNil, tLst, tTup, tCB, tCall, tMeth, tMake, tFld, sFld, tFor_c, tLc_c, iRng1, iList, iTup, iStr, iSeqB, iEnumB, tM1, tSl, tPart, tNoPart, rSlS, rIxS, tBM, rAppend, tIf, rEq, rNe, scal, hIx, hIxT, hIxB, hSet, hInt, hIntB, hLen, hLenT, hLenB, L2.start, wipe, List.map_cons, List.map_nil, List.set_cons_zero, List.set_cons_succ, List.set_nil, List.length_cons, List.length_nil, List.length_map, List.cons_append, List.nil_append, List.append_nil, List.replicate, List.getElem?_cons_zero, List.getElem?_cons_succ, Option.some.injEq, V.int.injEq, V.bl.injEq, V.ref.injEq, V.str.injEq, List.cons.injEq, exists_eq_left', exists_eq_left, exists_and_left, and_assoc, upd_same, upd_upd, HO.lst.injEq, HO.tup.injEq, atI_0, atI_1, atI_2, atI_3, set_1, set_2, set_3, CDiv, CPow, CMul, List.length_set, Int.reduceToNat, Int.reduceLE, Int.reduceLT, Int.reducePow, Int.reduceNeg, Nat.reduceAdd, Nat.reduceLT, Nat.reduceLeDiff, Nat.reducePow, Nat.zero_add, or_true, true_or, gt_iff_lt, ge_iff_le, and_true, true_and, decide_eq_true_eq, if_true, Bool.false_eq_true, if_false]
        unfold tBMS rIndexX
        simp only [tSeq, tAsg, tRet, tRetN, tDrop, tIfS, tNext, tNever, tOp, tUn, tVar, tC, rI0, rI, rU, tTest, tIf, tB, tAnd, tOr, tNot, tAndV, tOrV, tNotV, gName, gSub, gTupH, gCons, gNil, tYes, tCons, tNil, tLst, tTup, tCB, tCall, tMeth, tMake, tFld, sFld, tFor_c, tLc_c, iRng1, iList, iTup, iStr, iSeqB, iEnumB, tM1, tSl, tPart, tNoPart, rSlS, rIxS, tBM, rAppend, tIf, rEq, rNe, scal, hIx, hIxT, hIxB, hSet, hInt, hIntB, hLen, hLenT, hLenB, L2.start, wipe, List.map_cons, List.map_nil, List.set_cons_zero, List.set_cons_succ, List.set_nil, List.length_cons, List.length_nil, List.length_map, List.cons_append, List.nil_append, List.append_nil, List.replicate, List.getElem?_cons_zero, List.getElem?_cons_succ, Option.some.injEq, V.int.injEq, V.bl.injEq, V.ref.injEq, V.str.injEq, List.cons.injEq, exists_eq_left', exists_eq_left, exists_and_left, and_assoc, upd_same, upd_upd, HO.lst.injEq, HO.tup.injEq, atI_0, atI_1, atI_2, atI_3, set_1, set_2, set_3, CDiv, CPow, CMul, List.length_set, Int.reduceToNat, Int.reduceLE, Int.reduceLT, Int.reducePow, Int.reduceNeg, Nat.reduceAdd, Nat.reduceLT, Nat.reduceLeDiff, Nat.reducePow, Nat.zero_add, or_true, true_or, gt_iff_lt, ge_iff_le, and_true, true_and, decide_eq_true_eq, if_true, Bool.false_eq_true, if_false]
        have ix := ix6 c1 c2
        refine ⟨rfl, fun k ek => ?_, fun ek => ?_⟩
        · have ek : some (c - 97) = some k := ix.symm.trans ek
          cases ek
          refine ⟨ltr_len b, _, atI_nat (ltr_at b c1 c2), _, eD', ?_, ?_, same_out s3 hD'⟩
          · rw [List.length_map, List.length_map, List.length_map, List.length_take]
            exact small1000 (by have := pl_len m; omega)
          · rw [take_s hc, List.map_append, List.map_append, List.map_append]
            rfl
        · have ek : some (c - 97) = none := ix.symm.trans ek
          cases ek
      · rintro D' H3 hD' ⟨eD', s3⟩
        rw [show (lt (pt m)).length = (pl m).length from rfl, List.take_of_length_le (Nat.le_refl _), l1] at eD'
        refine ⟨D', rfl, (pl (lm b m)).map (fun c => tx [c]), .inl (SqL.of eD'), ?_, ?_⟩
        · rw [sum_one, show (Str.ofString "").length = 0 from by decide +kernel, Nat.mul_zero]
          have := pl_len (lm b m)
          omega
        rw [show Str.ofString "" = ("" : Str) from rfl, ej]
        simp only [join_tx]
        refine ⟨_, s3 _ _ eD, ?_, ?_, same_out (Same.tr s2 s3) hD⟩
        · rw [List.length_map, List.length_map, List.length_take]
          exact small1000 (by omega)
        · rw [take_s hm1, List.map_append, ps, ps, List.map_append]
          rfl
    · rintro D H2 hD ⟨eD, s2⟩
      rw [show (ps ms).length = ms.length from List.length_map _, List.take_of_length_le (Nat.le_refl _)] at eD
      exact q b D H2 (k.tr (Off1.of s2)) (p4.same s2) eD (p4.ne_p hD)
end
end AK
set_option Elab.async false
set_option linter.all false
set_option maxRecDepth 100000
set_option maxHeartbeats 4000000
namespace AK
open PySem PySem.Spec PyProof.Rows L2
theorem Pool.at {G H : Hp} {p : Addr} (h : Pool G H p) : ∃ c, PoolAt H p c := by
  obtain ⟨c, cells, i, d, x, e1, e2, e3⟩ := h.ex
  exact ⟨c, ne_of_none e2 h.out, cells, i, d, x, e1, h.le _ _ e2, e3⟩
theorem cutV_last (l : List V) (y : V) : cutV (l ++ [y]) none (some (-1)) = l := by
  unfold cutV
  rw [HT.sIx_none, show HT.sIx (l ++ [y]).length (l ++ [y]).length (some (-1)) = l.length from by
    rw [List.length_append, List.length_singleton]
    show (if (-1 : Int) < 0 then ((-1 : Int) + ((l.length + 1 : Nat) : Int)).toNat else min (-1 : Int).toNat (l.length + 1)) = _
    rw [if_pos (by decide)]
    omega]
  simp
theorem atI_last (l : List V) (y : V) : atI (l ++ [y]) (-1) = some y := by
  unfold atI ixN
  rw [if_neg (by decide), if_pos (by rw [List.length_append, List.length_singleton]; omega)]
  show (l ++ [y])[((-1 : Int) + ((l ++ [y]).length : Nat)).toNat]? = _
  rw [show ((-1 : Int) + ((l ++ [y]).length : Nat)).toNat = l.length from by rw [List.length_append, List.length_singleton]; omega, List.getElem?_append_right (Nat.le_refl _), Nat.sub_self]
  rfl
theorem ni_same {H : Hp} (n : Nat) {l : List Nat} {p q : Addr} (e1 : H p = some (.tup (ni l))) (e2 : H q = some (.tup (ni l))) (hl : l.length ≤ 900) : SameD H (n + 1) (.ref p) (.ref q) :=
  .tup e1 e2 rfl (by rw [ni_len]; exact hl) fun i x y hx hy => by
    rw [hx] at hy
    cases hy
    obtain ⟨b, _, rfl⟩ := ni_at hx
    exact .int n _
theorem in_strs (z : Str) : ∀ ys : List Str, inV (V.str z) (ys.map V.str) = decide (z ∈ ys)
  | [] => rfl
  | y :: ys => by
    have ih := in_strs z ys
    unfold inV at ih ⊢
    rw [List.map_cons, List.any_cons, ih]
    show ((y == z) || decide (z ∈ ys)) = _
    by_cases h : z = y
    · subst h
      simp
    · have : (y == z) = false := beq_eq_false_iff_ne.mpr (fun w => h w.symm)
      rw [this]
      simp [h]
theorem flat_strs (ys : List Str) : (ys.map V.str).all flatV = true := by
  rw [List.all_map, List.all_eq_true]
  exact fun _ _ => rfl
end AK
set_option Elab.async false
set_option linter.all false
set_option maxRecDepth 100000
set_option maxHeartbeats 4000000
namespace AK
open PySem PySem.Spec PyProof.Rows L2
section
variable {P : Program} {w : World} {K : PySem.W.Frag} {mg : Str → Option Value} {base : Heap} {a : Ads}
def spLRank : Sp := fun vs H Q _ => ∃ (r : Addr) (ms : List Nat), vs = [.ref r] ∧ H r = some (.lst (ps ms)) ∧ (∀ m ∈ ms, m < 64) ∧ ms.length ≤ 900 ∧ ∀ H', Same H H' → Q (.int (rank ms : Nat)) H'
theorem ok_law_rank (T : Txt K mg a) : FnOk P w K mg base CX0 3 a.a_law_rank a.d_law_rank ["messages"] spLRank := by
  have G_law_derived := ok_law_derived (P := P) (w := w) (base := base) T
  refine T.F_law_rank.ok sc_law_rank (fun vs H Q E h => ?_) (fun cdv A outer s H vs Q E hr h => ?_)
  · obtain ⟨_, _, rfl, _⟩ := h
    rfl
  · obtain ⟨r, ms, rfl, hr1, h64, hl, q⟩ := h
    refine ⟨_, (pss_cons (ps_set (i := 1) sc_law_rank.nd rfl (.inl rfl) (pe_callB callLen (by rfl) T.z_len PySem.boot_len (pa_cons (pe_call G_law_derived (hr.mono (by first | decide | exact Nat.le_refl _ | omega)) (by rfl) T.g_law_derived T.F_law_derived.kp T.b_law_derived .nil pass0 (pa_cons (pv 0) pa_nil)) pa_nil)))
      (pss_cons (ps_set (i := 2) sc_law_rank.nd rfl (.inl rfl) pe_int)
      (pss_cons (ps_for PassesOwn.never rfl (pi_range1 (by rfl) T.z_range (pa_cons pe_int pa_nil)) (pg_name (i := 3) sc_law_rank.nd rfl (.inl rfl))
      (pss_one (ps_if (pt_cmpR op_gt (pv 1) pe_int (nomark _))
      (pss_cons (ps_set (i := 1) sc_law_rank.nd rfl (.inl rfl) (pe_op op_fdiv (pv 1) pe_int))
      (pss_one (ps_set (i := 2) sc_law_rank.nd rfl (.inl rfl) (pe_op op_add (pv 2) pe_int))))
      pss_nil)))
      (pss_one (ps_ret (pv 2)))))), ?_⟩
    simp only [tSeq, tAsg, tRet, tRetN, tDrop, tIfS, tNext, tNever, tOp, tUn, tVar, tC, rI0, rI, rU, tTest, tIf, tB, tAnd, tOr, tNot, tAndV, tOrV, tNotV, gName, gSub, gTupH, gCons, gNil, tYes, tCons, tNil, tLst, tTup, tCB, tCall, tMeth, tMake, tFld, sFld, tFor_c, tLc_c, iRng1, iList, iTup, iStr, iSeqB, iEnumB, tM1, tSl, tPart, tNoPart, rSlS, rIxS, tBM, rAppend, tIf, rEq, rNe, scal, hIx, hIxT, hIxB, hSet, hInt, hIntB, hLen, hLenT, hLenB, L2.start, wipe, List.map_cons, List.map_nil, List.set_cons_zero, List.set_cons_succ, List.set_nil, List.length_cons, List.length_nil, List.length_map, List.cons_append, List.nil_append, List.append_nil, List.replicate, List.getElem?_cons_zero, List.getElem?_cons_succ, Option.some.injEq, V.int.injEq, V.bl.injEq, V.ref.injEq, V.str.injEq, List.cons.injEq, exists_eq_left', exists_eq_left, exists_and_left, and_assoc, upd_same, upd_upd, HO.lst.injEq, HO.tup.injEq, atI_0, atI_1, atI_2, atI_3, set_1, set_2, set_3, CDiv, CPow, CMul, List.length_set, Int.reduceToNat, Int.reduceLE, Int.reduceLT, Int.reducePow, Int.reduceNeg, Nat.reduceAdd, Nat.reduceLT, Nat.reduceLeDiff, Nat.reducePow, Nat.zero_add, or_true, true_or, gt_iff_lt, ge_iff_le, and_true, true_and, decide_eq_true_eq, if_true, Bool.false_eq_true, if_false]
    refine ⟨r, ms, rfl, hr1, h64, hl, fun ys D H1 hp hs s1 _ e1 => ?_⟩
    refine ⟨D, rfl, _, e1, ?_⟩
    have hlen : (ys.map V.str).length = 2 ^ rank ms := by
      rw [List.length_map, hp.length_eq, List.length_map]
      exact (rep ms).l
    have r6 : rank ms ≤ 6 := by
      have h1 := der_len h64
      rw [(rep ms).l] at h1
      exact (Nat.pow_le_pow_iff_right (by decide : 1 < 2)).mp (show 2 ^ rank ms ≤ 2 ^ 6 from h1)
    rw [hlen]
    refine forRng (n := 6) (fun i σ H' => (∃ v, σ = [some (.ref r), some (.int ((2 ^ (rank ms - i) : Nat) : Int)), some (.int ((min i (rank ms) : Nat) : Int)), v]) ∧ H' = H1) ⟨⟨_, by rw [Nat.sub_zero, Nat.zero_min]; rfl⟩, rfl⟩ ?_ ?_
    · rintro i σ H' hi ⟨⟨v, rfl⟩, rfl⟩
      simp only [tSeq, tAsg, tRet, tRetN, tDrop, tIfS, tNext, tNever, tOp, tUn, tVar, tC, rI0, rI, rU, tTest, tIf, tB, tAnd, tOr, tNot, tAndV, tOrV, tNotV, gName, gSub, gTupH, gCons, gNil, tYes, tCons, tNil, tLst, tTup, tCB, tCall, tMeth, tMake, tFld, sFld, tFor_c, tLc_c, iRng1, iList, iTup, iStr, iSeqB, iEnumB, tM1, tSl, tPart, tNoPart, rSlS, rIxS, tBM, rAppend, tIf, rEq, rNe, scal, hIx, hIxT, hIxB, hSet, hInt, hIntB, hLen, hLenT, hLenB, L2.start, wipe, List.map_cons, List.map_nil, List.set_cons_zero, List.set_cons_succ, List.set_nil, List.length_cons, List.length_nil, List.length_map, List.cons_append, List.nil_append, List.append_nil, List.replicate, List.getElem?_cons_zero, List.getElem?_cons_succ, Option.some.injEq, V.int.injEq, V.bl.injEq, V.ref.injEq, V.str.injEq, List.cons.injEq, exists_eq_left', exists_eq_left, exists_and_left, and_assoc, upd_same, upd_upd, HO.lst.injEq, HO.tup.injEq, atI_0, atI_1, atI_2, atI_3, set_1, set_2, set_3, CDiv, CPow, CMul, List.length_set, Int.reduceToNat, Int.reduceLE, Int.reduceLT, Int.reducePow, Int.reduceNeg, Nat.reduceAdd, Nat.reduceLT, Nat.reduceLeDiff, Nat.reducePow, Nat.zero_add, or_true, true_or, gt_iff_lt, ge_iff_le, and_true, true_and, decide_eq_true_eq, if_true, Bool.false_eq_true, if_false]
      by_cases hir : i < rank ms
      · have e2 : 2 ^ (rank ms - i) = 2 ^ (rank ms - (i + 1)) * 2 := by
          rw [← Nat.pow_succ]
          congr 1
          omega
        have e1 : 1 ≤ 2 ^ (rank ms - (i + 1)) := Nat.two_pow_pos _
        refine ite2 (fun c => ?_) fun c => absurd c (by omega)
        rw [e2, show min (i + 1) (rank ms) = min i (rank ms) + 1 from by omega]
        exact ⟨by omega, by omega, _, rfl⟩
      · have e0 : rank ms - i = 0 := by omega
        refine ite2 (fun c => absurd c (by rw [e0]; decide)) fun c => ?_
        rw [show rank ms - (i + 1) = rank ms - i from by omega, show min (i + 1) (rank ms) = min i (rank ms) from by omega]
        exact ⟨rfl, rfl, _, rfl⟩
    · rintro σ H' ⟨⟨v, rfl⟩, rfl⟩
      simp only [tSeq, tAsg, tRet, tRetN, tDrop, tIfS, tNext, tNever, tOp, tUn, tVar, tC, rI0, rI, rU, tTest, tIf, tB, tAnd, tOr, tNot, tAndV, tOrV, tNotV, gName, gSub, gTupH, gCons, gNil, tYes, tCons, tNil, tLst, tTup, tCB, tCall, tMeth, tMake, tFld, sFld, tFor_c, tLc_c, iRng1, iList, iTup, iStr, iSeqB, iEnumB, tM1, tSl, tPart, tNoPart, rSlS, rIxS, tBM, rAppend, tIf, rEq, rNe, scal, hIx, hIxT, hIxB, hSet, hInt, hIntB, hLen, hLenT, hLenB, L2.start, wipe, List.map_cons, List.map_nil, List.set_cons_zero, List.set_cons_succ, List.set_nil, List.length_cons, List.length_nil, List.length_map, List.cons_append, List.nil_append, List.append_nil, List.replicate, List.getElem?_cons_zero, List.getElem?_cons_succ, Option.some.injEq, V.int.injEq, V.bl.injEq, V.ref.injEq, V.str.injEq, List.cons.injEq, exists_eq_left', exists_eq_left, exists_and_left, and_assoc, upd_same, upd_upd, HO.lst.injEq, HO.tup.injEq, atI_0, atI_1, atI_2, atI_3, set_1, set_2, set_3, CDiv, CPow, CMul, List.length_set, Int.reduceToNat, Int.reduceLE, Int.reduceLT, Int.reducePow, Int.reduceNeg, Nat.reduceAdd, Nat.reduceLT, Nat.reduceLeDiff, Nat.reducePow, Nat.zero_add, or_true, true_or, gt_iff_lt, ge_iff_le, and_true, true_and, decide_eq_true_eq, if_true, Bool.false_eq_true, if_false]
      rw [Nat.min_eq_right r6]
      exact q _ s1
end
end AK
set_option Elab.async false
set_option linter.all false
set_option maxRecDepth 100000
set_option maxHeartbeats 4000000
namespace AK
open PySem PySem.Spec PyProof.Rows L2
theorem bas_range : ∀ (ms R : List Nat) (i : Nat), bas ms R i = ((List.range ms.length).filter fun k => !decide (rem (spn (ms.take k) R) (ms.getD k 0) = 0)).map (i + ·)
  | [], R, i => by simp [bas]
  | m :: ms, R, i => by
    rw [bas, List.length_cons, List.range_succ_eq_map, List.filter_cons, List.filter_map]
    have e0 : rem (spn ((m :: ms).take 0) R) ((m :: ms).getD 0 0) = rem R m := rfl
    rw [e0]
    have key : ∀ R' : List Nat, sp R m = R' → ((List.range ms.length).filter ((fun k => !decide (rem (spn ((m :: ms).take k) R) ((m :: ms).getD k 0) = 0)) ∘ Nat.succ)) = (List.range ms.length).filter fun k => !decide (rem (spn (ms.take k) R') (ms.getD k 0) = 0) := by
      intro R' h
      congr 1
      funext k
      show (!decide (rem (spn ((m :: ms).take (k + 1)) R) ((m :: ms).getD (k + 1) 0) = 0)) = _
      rw [List.take_succ_cons, show spn (m :: ms.take k) R = spn (ms.take k) (sp R m) from rfl, h]
      rfl
    by_cases h : rem R m = 0
    · rw [if_pos h, decide_eq_true h, key R (by unfold sp; rw [if_pos h]), bas_range ms R (i + 1), if_neg (by decide), List.map_map]
      congr 1
      funext k
      show i + 1 + k = i + (k + 1)
      omega
    · rw [if_neg h, decide_eq_false h, key (R ++ [rem R m]) (by unfold sp; rw [if_neg h]), bas_range ms (R ++ [rem R m]) (i + 1), if_pos (show (!false) = true from rfl), List.map_cons, List.map_map]
      congr 1
      congr 1
      funext k
      show i + 1 + k = i + (k + 1)
      omega
theorem rem_S0 (ms : List Nat) (m : Nat) : rem (spn ms []) m = 0 ↔ S ms m := (rem_zero (good_spn ms [] trivial) m).trans (S_spn0 ms m)
end AK
set_option Elab.async false
set_option linter.all false
set_option maxRecDepth 100000
set_option maxHeartbeats 4000000
namespace AK
open PySem PySem.Spec PyProof.Rows L2
section
variable {P : Program} {w : World} {K : PySem.W.Frag} {mg : Str → Option Value} {base : Heap} {a : Ads}
def spLRows : Sp := fun vs H Q _ => ∃ (p c : Addr) (n most : Nat), vs = [.ref p, .int (n : Int), .int (most : Int)] ∧ PoolAt H p c ∧ n ≤ 6 ∧ most ≤ 20 ∧
  ∀ (A : List Nat) (D : Addr) (H' : Hp), Off1 p H H' → PoolAt H' p c → H' D = some (.lst (ps A)) → D ≠ p → (∀ m ∈ A, m < 2 ^ n) → A.length ≤ most → Q (.ref D) H'
theorem ok_law_rows (T : Txt K mg a) : FnOk P w K mg base CX0 4 a.a_law_rows a.d_law_rows ["pool", "variables", "most"] spLRows := by
  have G_law_take := ok_law_take (P := P) (w := w) (base := base) T
  have G_law_parity := ok_law_parity (P := P) (w := w) (base := base) T
  have G_law_pick := ok_law_pick (P := P) (w := w) (base := base) T
  refine T.F_law_rows.ok sc_law_rows (fun vs H Q E h => ?_) (fun cdv A outer s H vs Q E hr h => ?_)
  · obtain ⟨_, _, _, _, rfl, _⟩ := h
    rfl
  · obtain ⟨p, c, n, most, rfl, p0, hn, hm, q⟩ := h
    refine ⟨_, (pss_cons (ps_set (i := 3) sc_law_rows.nd rfl (.inl rfl) (pe_lst pa_nil))
      (pss_cons (ps_for PassesOwn.never rfl (pi_range1 (by rfl) T.z_range (pa_cons (pe_call G_law_take (hr.mono (by first | decide | exact Nat.le_refl _ | omega)) (by rfl) T.g_law_take T.F_law_take.kp T.b_law_take .nil pass0 (pa_cons (pv 0) (pa_cons (pe_op op_add (pv 2) pe_int) pa_nil))) pa_nil)) (pg_name (i := 4) sc_law_rows.nd rfl (.inl rfl))
      (pss_cons (ps_set (i := 5) sc_law_rows.nd rfl (.inl rfl) (pe_call G_law_parity (hr.mono (by first | decide | exact Nat.le_refl _ | omega)) (by rfl) T.g_law_parity T.F_law_parity.kp T.b_law_parity .nil pass0 (pa_cons (pv 0) (pa_cons (pv 1) pa_nil))))
      (pss_cons (ps_if (PW.pt (pw_and (pt_truth (pv 3) (by intro _; rfl)) (pw_and1 (pt_cmpR op_eq (pe_call G_law_take (hr.mono (by first | decide | exact Nat.le_refl _ | omega)) (by rfl) T.g_law_take T.F_law_take.kp T.b_law_take .nil pass0 (pa_cons (pv 0) (pa_cons pe_int pa_nil))) pe_int (nomark _)))))
      (pss_one (ps_set (i := 5) sc_law_rows.nd rfl (.inl rfl) (pe_call G_law_pick (hr.mono (by first | decide | exact Nat.le_refl _ | omega)) (by rfl) T.g_law_pick T.F_law_pick.kp T.b_law_pick .nil pass0 (pa_cons (pv 0) (pa_cons (pv 3) pa_nil)))))
      pss_nil)
      (pss_one (ps_expr (pe_bm PySem.F.plainAttrs_list PySem.F.slot_list_append PySem.F.type_list_append mt_append (pv 3) (pa_cons (pv 5) pa_nil)))))))
      (pss_one (ps_ret (pv 3))))), ?_⟩
    simp only [gStr2, gSeqH, tDc_c, tDGet, sDPut, rCat, tBreak, rExtend, tSeq, tAsg, tRet, tRetN, tDrop, tIfS, tNext, tNever, tOp, tUn, tVar, tC, rI0, rI, rU, tTest, tIf, tB, tAnd, tOr, tNot, tAndV, tOrV, tNotV, gName, gSub, gTupH, gCons, gNil, tYes, tCons, tNil, tLst, tTup, tCB, tCall, tMeth, tMake, tFld, sFld, tFor_c, tLc_c, iRng1, iList, iTup, iStr, iSeqB, iEnumB, tM1, tSl, tPart, tNoPart, rSlS, rIxS, tBM, rAppend, tIf, rEq, rNe, scal, hIx, hIxT, hIxB, hSet, hInt, hIntB, hLen, hLenT, hLenB, L2.start, wipe, List.map_cons, List.map_nil, List.set_cons_zero, List.set_cons_succ, List.set_nil, List.length_cons, List.length_nil, List.length_map, List.cons_append, List.nil_append, List.append_nil, List.replicate, List.getElem?_cons_zero, List.getElem?_cons_succ, Option.some.injEq, V.int.injEq, V.bl.injEq, V.ref.injEq, V.str.injEq, List.cons.injEq, exists_eq_left', exists_eq_left, exists_and_left, and_assoc, upd_same, upd_upd, HO.lst.injEq, HO.tup.injEq, atI_0, atI_1, atI_2, atI_3, set_1, set_2, set_3, CDiv, CPow, CMul, List.length_set, Int.reduceToNat, Int.reduceLE, Int.reduceLT, Int.reducePow, Int.reduceNeg, Nat.reduceAdd, Nat.reduceLT, Nat.reduceLeDiff, Nat.reducePow, Nat.zero_add, or_true, true_or, gt_iff_lt, ge_iff_le, and_true, true_and, decide_eq_true_eq, if_true, Bool.false_eq_true, if_false]
    refine ⟨Nat.zero_le _, fun M hM => ?_⟩
    have nM := p0.ne_p hM
    have nMc := p0.ne_c hM
    have k0 : Off1 p H (upd H M (.lst [])) := Off1.of (same_new hM)
    refine take_pool (p0.new hM) (by omega) (by omega) fun j H3 j0 j1 k2 k2' p2 => ?_
    have eM : H3 M = some (.lst (ps [])) := by rw [k2' M nM]; exact upd_same
    refine ⟨j, rfl, by omega, by omega, ?_⟩
    have k23 := k0.tr k2
    refine forRng (fun i σ H' => ∃ (v4 v5 : Option V) (A : List Nat), σ = [some (.ref p), some (.int (n : Int)), some (.int (most : Int)), some (.ref M), v4, v5] ∧ Off1 p H H' ∧ PoolAt H' p c ∧ H' M = some (.lst (ps A)) ∧ (∀ m ∈ A, m < 2 ^ n) ∧ A.length = i) ⟨none, none, [], rfl, k23, p2, eM, fun m h => (List.not_mem_nil h).elim, rfl⟩ ?_ ?_
    · rintro i σ H' hi ⟨v4, v5, A, rfl, k3, p3, eA, hA, lA⟩
      simp only [gStr2, gSeqH, tDc_c, tDGet, sDPut, rCat, tBreak, rExtend, tSeq, tAsg, tRet, tRetN, tDrop, tIfS, tNext, tNever, tOp, tUn, tVar, tC, rI0, rI, rU, tTest, tIf, tB, tAnd, tOr, tNot, tAndV, tOrV, tNotV, gName, gSub, gTupH, gCons, gNil, tYes, tCons, tNil, tLst, tTup, tCB, tCall, tMeth, tMake, tFld, sFld, tFor_c, tLc_c, iRng1, iList, iTup, iStr, iSeqB, iEnumB, tM1, tSl, tPart, tNoPart, rSlS, rIxS, tBM, rAppend, tIf, rEq, rNe, scal, hIx, hIxT, hIxB, hSet, hInt, hIntB, hLen, hLenT, hLenB, L2.start, wipe, List.map_cons, List.map_nil, List.set_cons_zero, List.set_cons_succ, List.set_nil, List.length_cons, List.length_nil, List.length_map, List.cons_append, List.nil_append, List.append_nil, List.replicate, List.getElem?_cons_zero, List.getElem?_cons_succ, Option.some.injEq, V.int.injEq, V.bl.injEq, V.ref.injEq, V.str.injEq, List.cons.injEq, exists_eq_left', exists_eq_left, exists_and_left, and_assoc, upd_same, upd_upd, HO.lst.injEq, HO.tup.injEq, atI_0, atI_1, atI_2, atI_3, set_1, set_2, set_3, CDiv, CPow, CMul, List.length_set, Int.reduceToNat, Int.reduceLE, Int.reduceLT, Int.reducePow, Int.reduceNeg, Nat.reduceAdd, Nat.reduceLT, Nat.reduceLeDiff, Nat.reducePow, Nat.zero_add, or_true, true_or, gt_iff_lt, ge_iff_le, and_true, true_and, decide_eq_true_eq, if_true, Bool.false_eq_true, if_false]
      refine ⟨p, c, n, rfl, p3, fun m H4 _ hm3 k4 p4 => ?_⟩
      have hm3 := hm3 hn
      have eA := k4 _ _ nM eA
      have k34 := k3.tr k4
      have fin : ∀ (x : Nat) (H5 : Hp), x < 2 ^ n → Off1 p H H5 → PoolAt H5 p c → H5 M = some (.lst (ps A)) → tyV K "list" (V.ref M) H5 ∧ ∃ y : List V, H5 M = some (.lst y) ∧ y.length < sizeLine ∧ Off1 p H (upd H5 M (.lst (y ++ [V.str (pt x)]))) ∧ PoolAt (upd H5 M (.lst (y ++ [V.str (pt x)]))) p c ∧ ∃ A' : List Nat, y ++ [V.str (pt x)] = ps A' ∧ (∀ m ∈ A', m < 2 ^ n) ∧ A'.length = i + 1 := fun x H5 hx k5 p5 e => by
        refine ⟨.inl ⟨rfl, _, SqL.of e⟩, _, e, ?_, k5.wr hM, p5.wr nM nMc, A ++ [x], ?_, ?_, ?_⟩
        · rw [List.length_map]
          exact small1000 (by omega)
        · rw [ps, ps, List.map_append]
          rfl
        · intro y hy
          rcases List.mem_append.mp hy with h | h
          · exact hA y h
          · rw [List.mem_singleton.mp h]; exact hx
        · rw [List.length_append, lA]; rfl
      by_cases h0 : A = []
      · refine ⟨false, .inl ⟨_, SqL.of eA, by rw [h0]; rfl⟩, ?_⟩
        rw [if_neg (show ¬(false = true) by decide)]
        exact fin m H4 hm3 k34 p4 eA
      · refine ⟨true, .inl ⟨_, SqL.of eA, ?_⟩, ?_⟩
        · cases A with
          | nil => exact absurd rfl h0
          | cons _ _ => rfl
        rw [if_pos (show true = true from rfl)]
        refine take_pool p4 (by decide) (by decide) fun d H5 d0 d1 k5 _ p5 => ⟨rfl, ?_⟩
        have eA5 := k5 _ _ nM eA
        refine ite2 (fun _ => ?_) (fun _ => fin m H5 hm3 (k34.tr k5) p5 eA5)
        refine ⟨p, c, M, ps A, rfl, p5, eA5, nM, fun z => h0 (List.map_eq_nil_iff.mp z), by rw [List.length_map]; omega, fun x H6 hx k6 p6 => ?_⟩
        obtain ⟨x, hx2, rfl⟩ := List.mem_map.mp hx
        exact fin x H6 (hA x hx2) ((k34.tr k5).tr k6) p6 (k6 _ _ nM eA5)
    · rintro σ H' ⟨v4, v5, A, rfl, k3, p3, eA, hA, lA⟩
      simp only [gStr2, gSeqH, tDc_c, tDGet, sDPut, rCat, tBreak, rExtend, tSeq, tAsg, tRet, tRetN, tDrop, tIfS, tNext, tNever, tOp, tUn, tVar, tC, rI0, rI, rU, tTest, tIf, tB, tAnd, tOr, tNot, tAndV, tOrV, tNotV, gName, gSub, gTupH, gCons, gNil, tYes, tCons, tNil, tLst, tTup, tCB, tCall, tMeth, tMake, tFld, sFld, tFor_c, tLc_c, iRng1, iList, iTup, iStr, iSeqB, iEnumB, tM1, tSl, tPart, tNoPart, rSlS, rIxS, tBM, rAppend, tIf, rEq, rNe, scal, hIx, hIxT, hIxB, hSet, hInt, hIntB, hLen, hLenT, hLenB, L2.start, wipe, List.map_cons, List.map_nil, List.set_cons_zero, List.set_cons_succ, List.set_nil, List.length_cons, List.length_nil, List.length_map, List.cons_append, List.nil_append, List.append_nil, List.replicate, List.getElem?_cons_zero, List.getElem?_cons_succ, Option.some.injEq, V.int.injEq, V.bl.injEq, V.ref.injEq, V.str.injEq, List.cons.injEq, exists_eq_left', exists_eq_left, exists_and_left, and_assoc, upd_same, upd_upd, HO.lst.injEq, HO.tup.injEq, atI_0, atI_1, atI_2, atI_3, set_1, set_2, set_3, CDiv, CPow, CMul, List.length_set, Int.reduceToNat, Int.reduceLE, Int.reduceLT, Int.reducePow, Int.reduceNeg, Nat.reduceAdd, Nat.reduceLT, Nat.reduceLeDiff, Nat.reducePow, Nat.zero_add, or_true, true_or, gt_iff_lt, ge_iff_le, and_true, true_and, decide_eq_true_eq, if_true, Bool.false_eq_true, if_false]
      exact q A M H' k3 p3 eA nM hA (by omega)
end
end AK
set_option Elab.async false
set_option linter.all false
set_option maxRecDepth 100000
set_option maxHeartbeats 4000000
namespace AK
open PySem PySem.Spec PyProof.Rows L2
theorem one_text (v : V) : List.lookup ("text" : Str) [(("text" : Str), v)] = some v := by

  rw [List.lookup_cons]
  rfl
section
variable {P : Program} {w : World} {K : PySem.W.Frag} {mg : Str → Option Value} {base : Heap} {a : Ads}
def spLAsk (CB : Addr) : Sp := fun vs H _ E => ∃ (k : Int) (r : Addr) (L : List Str) (x : Str), vs = [.int k, .ref r, .str x] ∧ H r = some (.lst (L.map V.str)) ∧ L.length ≤ 100 ∧ BadAt CB H E (L ++ [x])
theorem ok_law_ask (T : Txt K mg a) : FnOk P w K mg base (L2.CX P w) 6 a.a_law_ask a.d_law_ask ["kind", "messages", "other"] (spLAsk a.c_BadParity) := by
  have G_is_derived := ok_is_derived (P := P) (w := w) (base := base) T
  have G_message_rank := ok_message_rank (P := P) (w := w) (base := base) T
  have G_basis := ok_basis (P := P) (w := w) (base := base) T
  have G_combination := ok_combination (P := P) (w := w) (base := base) T
  have G_separating := ok_separating (P := P) (w := w) (base := base) T
  have G_redundant := ok_redundant (P := P) (w := w) (base := base) T
  have G_is_equivalent := ok_is_equivalent (P := P) (w := w) (base := base) T
  have G_odd_ones := ok_odd_ones (P := P) (w := w) (base := base) T
  have G_assignments := ok_assignments (P := P) (w := w) (base := base) T
  refine T.F_law_ask.okX sc_law_ask (fun vs H Q E h => ?_) (fun cdv A outer s H vs Q E hr h => ?_)
  · obtain ⟨_, _, _, _, rfl, _⟩ := h
    rfl
  · obtain ⟨k, r, L, x, rfl, er, hl, hb⟩ := h
    refine ⟨_, (pss_one (ps_if (pt_cmpR op_eq (pv 0) pe_int (nomark _))
      (pss_one (ps_expr (pe_call G_is_derived (hr.mono (by first | decide | exact Nat.le_refl _ | omega)) (by rfl) T.g_is_derived T.F_is_derived.kp T.b_is_derived .nil (passes_call (E := E) (takes_of rfl rfl rfl rfl) (fun _ _ _ _ z => z)) (pa_cons (pv 1) (pa_cons (pv 2) pa_nil)))))
      (pss_one (ps_if (pt_cmpR op_eq (pv 0) pe_int (nomark _))
      (pss_one (ps_expr (pe_call G_message_rank (hr.mono (by first | decide | exact Nat.le_refl _ | omega)) (by rfl) T.g_message_rank T.F_message_rank.kp T.b_message_rank .nil (passes_call (E := E) (takes_of rfl rfl rfl rfl) (fun _ _ _ _ z => z)) (pa_cons (pe_op op_cat (pv 1) (pe_lst (pa_cons (pv 2) pa_nil))) pa_nil))))
      (pss_one (ps_if (pt_cmpR op_eq (pv 0) pe_int (nomark _))
      (pss_one (ps_expr (pe_call G_basis (hr.mono (by first | decide | exact Nat.le_refl _ | omega)) (by rfl) T.g_basis T.F_basis.kp T.b_basis .nil (passes_call (E := E) (takes_of rfl rfl rfl rfl) (fun _ _ _ _ z => z)) (pa_cons (pe_op op_cat (pv 1) (pe_lst (pa_cons (pv 2) pa_nil))) pa_nil))))
      (pss_one (ps_if (pt_cmpR op_eq (pv 0) pe_int (nomark _))
      (pss_one (ps_expr (pe_call G_combination (hr.mono (by first | decide | exact Nat.le_refl _ | omega)) (by rfl) T.g_combination T.F_combination.kp T.b_combination .nil (passes_call (E := E) (takes_of rfl rfl rfl rfl) (fun _ _ _ _ z => z)) (pa_cons (pv 1) (pa_cons (pv 2) pa_nil)))))
      (pss_one (ps_if (pt_cmpR op_eq (pv 0) pe_int (nomark _))
      (pss_one (ps_expr (pe_call G_separating (hr.mono (by first | decide | exact Nat.le_refl _ | omega)) (by rfl) T.g_separating T.F_separating.kp T.b_separating .nil (passes_call (E := E) (takes_of rfl rfl rfl rfl) (fun _ _ _ _ z => z)) (pa_cons pe_int (pa_cons (pv 1) (pa_cons (pv 2) pa_nil))))))
      (pss_one (ps_if (pt_cmpR op_eq (pv 0) pe_int (nomark _))
      (pss_one (ps_expr (pe_call G_redundant (hr.mono (by first | decide | exact Nat.le_refl _ | omega)) (by rfl) T.g_redundant T.F_redundant.kp T.b_redundant .nil (passes_call (E := E) (takes_of rfl rfl rfl rfl) (fun _ _ _ _ z => z)) (pa_cons (pe_op op_cat (pv 1) (pe_lst (pa_cons (pv 2) pa_nil))) pa_nil))))
      (pss_one (ps_if (pt_cmpR op_eq (pv 0) pe_int (nomark _))
      (pss_one (ps_expr (pe_call G_is_equivalent (hr.mono (by first | decide | exact Nat.le_refl _ | omega)) (by rfl) T.g_is_equivalent T.F_is_equivalent.kp T.b_is_equivalent .nil (passes_call (E := E) (takes_of rfl rfl rfl rfl) (fun _ _ _ _ z => z)) (pa_cons (pv 1) (pa_cons (pe_lst (pa_cons (pv 2) pa_nil)) pa_nil)))))
      (pss_one (ps_if (pt_cmpR op_eq (pv 0) pe_int (nomark _))
      (pss_one (ps_expr (pe_call G_odd_ones (hr.mono (by first | decide | exact Nat.le_refl _ | omega)) (by rfl) T.g_odd_ones T.F_odd_ones.kp T.b_odd_ones .nil (passes_call (E := E) (takes_of rfl rfl rfl rfl) (fun _ _ _ _ z => z)) (pa_cons (pv 1) (pa_cons (pv 2) pa_nil)))))
      (pss_one (ps_expr (pe_call G_assignments (hr.mono (by first | decide | exact Nat.le_refl _ | omega)) (by rfl) T.g_assignments T.F_assignments.kp T.b_assignments .nil (passes_call (E := E) (takes_of rfl rfl rfl rfl) (fun _ _ _ _ z => z)) (pa_cons pe_int (pa_cons (pe_op op_cat (pv 1) (pe_lst (pa_cons (pv 2) pa_nil))) (pa_cons (pe_op op_cat (pe_lc (own := [("message", 3)]) (g := gName 3) (tt := tYes) (te := tC (.bl true))  rfl sc_law_ask.nd (pi_list (pv 1)) (blkOk_by (own := [("message", 3)]) (N := sc_law_ask_N) (sc := defScope s_law_ask) (by decide +kernel)) (fun _ _ _ _ _ => (pg_name (i := 3) sc_law_ask.nd rfl (.inl rfl))) (fun _ _ _ _ _ => pts_nil) (fun _ _ _ _ _ => pe_bl)) (pe_lst (pa_cons pe_bl pa_nil))) pa_nil)))))))))))))))))))))), ?_⟩
    simp only [gStr2, gSeqH, tDc_c, tDGet, sDPut, rCat, tBreak, rExtend, tSeq, tAsg, tRet, tRetN, tDrop, tIfS, tNext, tNever, tOp, tUn, tVar, tC, rI0, rI, rU, tTest, tIf, tB, tAnd, tOr, tNot, tAndV, tOrV, tNotV, gName, gSub, gTupH, gCons, gNil, tYes, tCons, tNil, tLst, tTup, tCB, tCall, tMeth, tMake, tFld, sFld, tFor_c, tLc_c, iRng1, iList, iTup, iStr, iSeqB, iEnumB, tM1, tSl, tPart, tNoPart, rSlS, rIxS, tBM, rAppend, tIf, rEq, rNe, scal, hIx, hIxT, hIxB, hSet, hInt, hIntB, hLen, hLenT, hLenB, L2.start, wipe, List.map_cons, List.map_nil, List.set_cons_zero, List.set_cons_succ, List.set_nil, List.length_cons, List.length_nil, List.length_map, List.cons_append, List.nil_append, List.append_nil, List.replicate, List.getElem?_cons_zero, List.getElem?_cons_succ, Option.some.injEq, V.int.injEq, V.bl.injEq, V.ref.injEq, V.str.injEq, List.cons.injEq, exists_eq_left', exists_eq_left, exists_and_left, and_assoc, upd_same, upd_upd, HO.lst.injEq, HO.tup.injEq, atI_0, atI_1, atI_2, atI_3, set_1, set_2, set_3, CDiv, CPow, CMul, List.length_set, Int.reduceToNat, Int.reduceLE, Int.reduceLT, Int.reducePow, Int.reduceNeg, Nat.reduceAdd, Nat.reduceLT, Nat.reduceLeDiff, Nat.reducePow, Nat.zero_add, or_true, true_or, gt_iff_lt, ge_iff_le, and_true, true_and, decide_eq_true_eq, if_true, Bool.false_eq_true, if_false]
    have two : ∀ {R : Addr → Hp → Prop}, (∀ D H', Same H H' → RowAt H' D ((L ++ [x]).map V.str) → R D H') → 1 ≤ sizeLine ∧ ∀ p1, H p1 = none → ∃ xs, upd H p1 (.lst [.str x]) r = some (.lst xs) ∧ xs.length + 1 ≤ sizeLine ∧ ∀ p2, upd H p1 (.lst [.str x]) p2 = none → R p2 (upd (upd H p1 (.lst [.str x])) p2 (.lst (xs ++ [.str x]))) := fun {R} hR => by
      refine ⟨by decide, fun p1 h1 => ?_⟩
      have s1 := same_new (o := .lst [V.str x]) h1
      refine ⟨_, s1 _ _ er, by rw [List.length_map]; exact sizeLe (by omega), fun p2 h2 => ?_⟩
      refine hR p2 _ (Same.tr s1 (same_new h2)) (.inl ?_)
      rw [upd_same, List.map_append]
      rfl
    have l2 : (L ++ [x]).length ≤ 900 := by rw [List.length_append, List.length_singleton]; omega
    refine ite2 (fun _ => ?_) fun _ => ite2 (fun _ => ?_) fun _ => ite2 (fun _ => ?_) fun _ => ite2 (fun _ => ?_) fun _ => ite2 (fun _ => ?_) fun _ => ite2 (fun _ => ?_) fun _ => ite2 (fun _ => ?_) fun _ => ite2 (fun _ => ?_) fun _ => ?_
    · exact ⟨r, L, x, rfl, .inl er, by omega, .inr hb⟩
    · exact two (R := fun D H' => spRankR a.c_BadParity [V.ref D] H' (fun x H1 => Q V.non H1) E) fun D H' s hD => ⟨D, _, rfl, hD, l2, .inr (hb.move s)⟩
    · exact two (R := fun D H' => spBasR a.c_BadParity [V.ref D] H' (fun x H1 => Q V.non H1) E) fun D H' s hD => ⟨D, _, rfl, hD, l2, .inr (hb.move s)⟩
    · exact ⟨r, L, x, rfl, .inl er, by omega, hb⟩
    · exact ⟨6, r, L, x, rfl, .inl er, by omega, hb⟩
    · exact two (R := fun D H' => spBad1 a.c_BadParity [V.ref D] H' (fun x H1 => Q V.non H1) E) fun D H' s hD => ⟨D, _, rfl, hD, l2, hb.move s⟩
    · refine ⟨by decide, fun p1 h1 => ?_⟩
      have s1 := same_new (o := .lst [V.str x]) h1
      exact ⟨r, p1, L, x, rfl, .inl (s1 _ _ er), .inl upd_same, by omega, hb.move s1⟩
    · exact ⟨r, L, x, rfl, .inl er, by omega, hb⟩
    · refine two (R := fun D H' => (∃ xs, SqL _ H' r xs) ∧ contL (gName 3) tYes (tC (V.bl true)) [3] [some (V.int k), some (V.ref r), some (V.str x), none] (fun x0 H1 => 1 ≤ sizeLine ∧ ∀ (p : Addr), H1 p = none → ∃ l, x0 = V.ref l ∧ ∃ x2, upd H1 p (HO.lst [V.bl false]) l = some (HO.lst x2) ∧ x2.length + 1 ≤ sizeLine ∧ ∀ (p_2 : Addr), upd H1 p (HO.lst [V.bl false]) p_2 = none →
          spBad4 a.c_BadParity [V.int 6, V.ref D, V.ref p_2] (upd (upd H1 p (HO.lst [V.bl false])) p_2 (HO.lst (x2 ++ [V.bl false]))) (fun x H1 => Q V.non H1) E) (Itl _ r) H') fun D H' s hD => ?_
      refine ⟨⟨_, SqL.of (s _ _ er)⟩, ?_⟩
      refine lcLst (xs := L.map V.str) (fun i D2 H2 => H2 D2 = some (.lst (List.replicate i (V.bl true))) ∧ Same H' H2) (fun D2 hD2 => ⟨upd_same, same_new hD2⟩) (fun i D2 H2 _ _ z => SqL.of (z.2 _ _ (s _ _ er))) ?_ ?_
      · rintro i y D2 H2 hD2 hy ⟨eD2, s2⟩
        have hi : i < L.length := by
          have := (List.getElem?_eq_some_iff.mp hy).1
          rwa [List.length_map] at this
        refine ⟨rfl, ?_⟩
        simp only [gStr2, gSeqH, tDc_c, tDGet, sDPut, rCat, tBreak, rExtend, tSeq, tAsg, tRet, tRetN, tDrop, tIfS, tNext, tNever, tOp, tUn, tVar, tC, rI0, rI, rU, tTest, tIf, tB, tAnd, tOr, tNot, tAndV, tOrV, tNotV, gName, gSub, gTupH, gCons, gNil, tYes, tCons, tNil, tLst, tTup, tCB, tCall, tMeth, tMake, tFld, sFld, tFor_c, tLc_c, iRng1, iList, iTup, iStr, iSeqB, iEnumB, tM1, tSl, tPart, tNoPart, rSlS, rIxS, tBM, rAppend, tIf, rEq, rNe, scal, hIx, hIxT, hIxB, hSet, hInt, hIntB, hLen, hLenT, hLenB, L2.start, wipe, List.map_cons, List.map_nil, List.set_cons_zero, List.set_cons_succ, List.set_nil, List.length_cons, List.length_nil, List.length_map, List.cons_append, List.nil_append, List.append_nil, List.replicate, List.getElem?_cons_zero, List.getElem?_cons_succ, Option.some.injEq, V.int.injEq, V.bl.injEq, V.ref.injEq, V.str.injEq, List.cons.injEq, exists_eq_left', exists_eq_left, exists_and_left, and_assoc, upd_same, upd_upd, HO.lst.injEq, HO.tup.injEq, atI_0, atI_1, atI_2, atI_3, set_1, set_2, set_3, CDiv, CPow, CMul, List.length_set, Int.reduceToNat, Int.reduceLE, Int.reduceLT, Int.reducePow, Int.reduceNeg, Nat.reduceAdd, Nat.reduceLT, Nat.reduceLeDiff, Nat.reducePow, Nat.zero_add, or_true, true_or, gt_iff_lt, ge_iff_le, and_true, true_and, decide_eq_true_eq, if_true, Bool.false_eq_true, if_false]
        exact ⟨_, eD2, by rw [List.length_replicate]; exact small1000 (by omega), by rw [← List.replicate_succ', List.replicate_succ], same_out s2 hD2⟩
      · rintro D2 H2 hD2 ⟨eD2, s2⟩
        refine ⟨by decide, fun p1 h1 => ⟨D2, rfl, ?_⟩⟩
        have s3 := same_new (o := .lst [V.bl false]) h1
        refine ⟨_, s3 _ _ eD2, by rw [List.length_replicate, List.length_map]; exact sizeLe (by omega), fun p2 h2 => ?_⟩
        have s4 : ∀ o, Same H' (upd (upd H2 p1 (.lst [V.bl false])) p2 o) := fun o => Same.tr s2 (Same.tr s3 (same_new h2))
        exact ⟨6, D, p2, L ++ [x], rfl, rowS (s4 _) hD, l2, hb.move (Same.tr s (s4 _))⟩
def spLRefd : Sp := fun vs H Q _ => ∃ (k : Int) (r : Addr) (L : List Str) (x : Str) (ms : List Nat) (y : Str) (post : List Str), vs = [.int k, .ref r, .str x] ∧ H r = some (.lst (L.map V.str)) ∧ L.length ≤ 100 ∧ L ++ [x] = ms.map pt ++ y :: post ∧ (∀ m ∈ ms, m < 256) ∧ asc A8 (lt y) = false ∧ ∀ H', Same H H' → Q (.str y) H'
theorem ok_law_refused (T : Txt K mg a) : FnOk P w K mg base CX0 7 a.a_law_refused a.d_law_refused ["kind", "messages", "other"] spLRefd := by
  have G_law_ask := ok_law_ask (P := P) (w := w) (base := base) T
  refine T.F_law_refused.ok sc_law_refused (fun vs H Q E h => ?_) (fun cdv A outer s H vs Q E hr h => ?_)
  · obtain ⟨_, _, _, _, _, _, _, rfl, _⟩ := h
    rfl
  · obtain ⟨k, r, L, x, ms, y, post, rfl, er, hl, eL, hm, hb, q⟩ := h
    refine ⟨_, (pss_cons (ps_try_as (i := 3) (Wout := (fun _ _ _ _ => False)) rfl rfl sc_law_refused.nd rfl rfl ⟨by rfl, by decide, Or.inl T.g_BadParity⟩ takes0 (fun W pn xe tk _ => (pss_one (ps_expr (pe_callS G_law_ask (hr.mono (by first | decide | exact Nat.le_refl _ | omega)) (by rfl) T.g_law_ask T.F_law_ask.kp T.b_law_ask (fun σ => passAt tk σ) (pa_cons (pv 0) (pa_cons (pv 1) (pa_cons (pv 2) pa_nil)))))))
      (fun a oe cls d pn hz hf => (pss_one (ps_ret (pe_ifExp (pt_val (pe_callB (call_isD T.X_BadParity hz hf) (by rfl) T.z_isinstance (by decide +kernel) (pa_cons (pv 3) (pa_cons (pe_glob (v := .ref _) rfl T.g_KnowError rfl) pa_nil)))) (pe_xf T.X_BadParity.xf T.n_BadParity_text hz hf (pv 3)) pe_non)))))
      (pss_one (ps_ret pe_non))), ?_⟩
    simp only [gStr2, gSeqH, tDc_c, tDGet, sDPut, rCat, tBreak, rExtend, tSeq, tAsg, tRet, tRetN, tDrop, tIfS, tNext, tNever, tOp, tUn, tVar, tC, rI0, rI, rU, tTest, tIf, tB, tAnd, tOr, tNot, tAndV, tOrV, tNotV, gName, gSub, gTupH, gCons, gNil, tYes, tCons, tNil, tLst, tTup, tCB, tCall, tMeth, tMake, tFld, sFld, tFor_c, tLc_c, iRng1, iList, iTup, iStr, iSeqB, iEnumB, tM1, tSl, tPart, tNoPart, rSlS, rIxS, tBM, rAppend, tIf, rEq, rNe, scal, hIx, hIxT, hIxB, hSet, hInt, hIntB, hLen, hLenT, hLenB, L2.start, wipe, List.map_cons, List.map_nil, List.set_cons_zero, List.set_cons_succ, List.set_nil, List.length_cons, List.length_nil, List.length_map, List.cons_append, List.nil_append, List.append_nil, List.replicate, List.getElem?_cons_zero, List.getElem?_cons_succ, Option.some.injEq, V.int.injEq, V.bl.injEq, V.ref.injEq, V.str.injEq, List.cons.injEq, exists_eq_left', exists_eq_left, exists_and_left, and_assoc, upd_same, upd_upd, HO.lst.injEq, HO.tup.injEq, atI_0, atI_1, atI_2, atI_3, set_1, set_2, set_3, CDiv, CPow, CMul, List.length_set, Int.reduceToNat, Int.reduceLE, Int.reduceLT, Int.reducePow, Int.reduceNeg, Nat.reduceAdd, Nat.reduceLT, Nat.reduceLeDiff, Nat.reducePow, Nat.zero_add, or_true, true_or, gt_iff_lt, ge_iff_le, and_true, true_and, decide_eq_true_eq, if_true, Bool.false_eq_true, if_false]
    refine ⟨_, rfl, _, rfl, _, rfl, k, r, L, x, rfl, er, hl, ms, y, post, eL, hm, hb, fun d H' hd => ?_⟩
    refine ⟨true, T.X_BadParity.one, fun _ e he => ?_, fun z => by cases z⟩
    simp only [gStr2, gSeqH, tDc_c, tDGet, sDPut, rCat, tBreak, rExtend, tSeq, tAsg, tRet, tRetN, tDrop, tIfS, tNext, tNever, tOp, tUn, tVar, tC, rI0, rI, rU, tTest, tIf, tB, tAnd, tOr, tNot, tAndV, tOrV, tNotV, gName, gSub, gTupH, gCons, gNil, tYes, tCons, tNil, tLst, tTup, tCB, tCall, tMeth, tMake, tFld, sFld, tFor_c, tLc_c, iRng1, iList, iTup, iStr, iSeqB, iEnumB, tM1, tSl, tPart, tNoPart, rSlS, rIxS, tBM, rAppend, tIf, rEq, rNe, scal, hIx, hIxT, hIxB, hSet, hInt, hIntB, hLen, hLenT, hLenB, L2.start, wipe, List.map_cons, List.map_nil, List.set_cons_zero, List.set_cons_succ, List.set_nil, List.length_cons, List.length_nil, List.length_map, List.cons_append, List.nil_append, List.append_nil, List.replicate, List.getElem?_cons_zero, List.getElem?_cons_succ, Option.some.injEq, V.int.injEq, V.bl.injEq, V.ref.injEq, V.str.injEq, List.cons.injEq, exists_eq_left', exists_eq_left, exists_and_left, and_assoc, upd_same, upd_upd, HO.lst.injEq, HO.tup.injEq, atI_0, atI_1, atI_2, atI_3, set_1, set_2, set_3, CDiv, CPow, CMul, List.length_set, Int.reduceToNat, Int.reduceLE, Int.reduceLT, Int.reducePow, Int.reduceNeg, Nat.reduceAdd, Nat.reduceLT, Nat.reduceLeDiff, Nat.reducePow, Nat.zero_add, or_true, true_or, gt_iff_lt, ge_iff_le, and_true, true_and, decide_eq_true_eq, if_true, Bool.false_eq_true, if_false]
    exact ⟨_, _, true, d, _, rfl, rfl, .own _, T.i_BadParity_KnowError, rfl, hd.2, true, rfl, iteT ⟨_, rfl, rfl, rfl, d, _, _, rfl, hd.2, one_text _, q H' hd.1⟩⟩
end
end AK
set_option Elab.async false
set_option linter.all false
set_option maxRecDepth 100000
set_option maxHeartbeats 8000000
namespace AK
open PySem PySem.Spec PyProof.Rows L2
theorem basS (ms : List Nat) : bas ms [] 0 = (List.range ms.length).filter fun k => !decide (ms.getD k 0 ∈ der (ms.take k)) := by
  rw [bas_range]
  have e : ∀ l : List Nat, l.map (0 + ·) = l := fun l => by simp
  rw [e]
  refine List.filter_congr fun k _ => ?_
  rw [Bool.eq_iff_iff, Bool.not_eq_true', Bool.not_eq_true', decide_eq_false_iff_not, decide_eq_false_iff_not, rem_S0, der_mem]
theorem bas_lm {b : Bool} {A : List Nat} (h : ∀ m ∈ A, m < 64) : bas (A.map (lm b)) [] 0 = bas A [] 0 := by
  rw [basS, basS, List.length_map]
  refine List.filter_congr fun k hk => ?_
  have hk := List.mem_range.mp hk
  have e1 : (A.map (lm b)).getD k 0 = lm b (A.getD k 0) := by
    rw [List.getD_eq_getElem?_getD, List.getD_eq_getElem?_getD, List.getElem?_map, List.getElem?_eq_getElem hk]
    rfl
  have hm : A.getD k 0 < 64 := by
    rw [List.getD_eq_getElem?_getD, List.getElem?_eq_getElem hk]
    exact h _ (List.getElem_mem hk)
  rw [e1, ← List.map_take, Bool.eq_iff_iff, Bool.not_eq_true', Bool.not_eq_true', decide_eq_false_iff_not, decide_eq_false_iff_not, der_mem, der_mem, S_lm (fun m hm => h m (List.mem_of_mem_take hm)) hm]
theorem rank_lm {b : Bool} {A : List Nat} (h : ∀ m ∈ A, m < 64) : rank (A.map (lm b)) = rank A := by
  rw [← cho_rank, ← cho_rank, ← bas_len _ [] 0, ← bas_len _ [] 0, bas_lm h]
def strg : List Str := ["ba", "aa", "A", " ", "a b", "i", "abca", "1", "hg"]
theorem strg_bad : ∀ x ∈ strg, asc A8 (lt x) = false := by decide +kernel
def spLaw (K : PySem.W.Frag) : Sp := fun vs H Q _ => ∃ (s : Addr) (ns : List Int), vs = [.ref s] ∧ SqL K H s (ns.map V.int) ∧ ns.length ≤ 63 ∧ ∀ H', Q (.bl true) H'
section
variable {P : Program} {w : World} {K : PySem.W.Frag} {mg : Str → Option Value} {base : Heap} {a : Ads}
theorem ok_law (T : Txt K mg a) : FnOk P w K mg base CX0 9 a.a_law a.d_law ["script"] (spLaw K) := by
  have G_law_pool := ok_law_pool (P := P) (w := w) (mg := mg) (base := base) T.F_law_pool
  have G_law_take := ok_law_take (P := P) (w := w) (base := base) T
  have G_law_parity := ok_law_parity (P := P) (w := w) (base := base) T
  have G_law_pick := ok_law_pick (P := P) (w := w) (base := base) T
  have G_law_rows := ok_law_rows (P := P) (w := w) (base := base) T
  have G_law_lettered := ok_law_lettered (P := P) (w := w) (base := base) T
  have G_law_derived := ok_law_derived (P := P) (w := w) (base := base) T
  have G_law_rank := ok_law_rank (P := P) (w := w) (base := base) T
  have G_law_shaped := ok_law_shaped (P := P) (w := w) (base := base) T
  have G_law_same := ok_law_same (P := P) (w := w) (base := base) T 1
  have G_message_rank := ok_message_rank (P := P) (w := w) (base := base) T
  have G_basis := ok_basis (P := P) (w := w) (base := base) T
  have G_is_derived := ok_is_derived (P := P) (w := w) (base := base) T
  have G_law_is_told_apart := ok_law_is_told_apart (P := P) (w := w) (base := base) T
  have G_law_refused := ok_law_refused (P := P) (w := w) (base := base) T
  refine T.F_law.ok sc_law (fun vs H Q E h => ?_) (fun cdv A0 outer s0 H vs Q E hr h => ?_)
  · obtain ⟨_, _, rfl, _⟩ := h
    rfl
  · obtain ⟨s, ns, rfl, hS, hl, q⟩ := h
    refine ⟨_, (pss_cons (ps_set (i := 1) sc_law.nd rfl (.inl rfl) (pe_call G_law_pool (hr.mono (by first | decide | exact Nat.le_refl _ | omega)) (by rfl) T.g_law_pool T.F_law_pool.kp T.b_law_pool .nil pass0 (pa_cons (pv 0) pa_nil)))
      (pss_cons (ps_set (i := 2) sc_law.nd rfl (.inl rfl) (pe_call G_law_take (hr.mono (by first | decide | exact Nat.le_refl _ | omega)) (by rfl) T.g_law_take T.F_law_take.kp T.b_law_take .nil pass0 (pa_cons (pv 1) (pa_cons pe_int pa_nil))))
      (pss_cons (ps_set (i := 3) sc_law.nd rfl (.inr rfl) (pe_call G_law_rows (hr.mono (by first | decide | exact Nat.le_refl _ | omega)) (by rfl) T.g_law_rows T.F_law_rows.kp T.b_law_rows .nil pass0 (pa_cons (pv 1) (pa_cons (pv 2) (pa_cons pe_int pa_nil)))))
      (pss_cons (ps_set (i := 4) sc_law.nd rfl (.inl rfl) (pe_call G_law_derived (hr.mono (by first | decide | exact Nat.le_refl _ | omega)) (by rfl) T.g_law_derived T.F_law_derived.kp T.b_law_derived .nil pass0 (pa_cons (pv 3) pa_nil)))
      (pss_cons (ps_setLc (i := 5) (own := [("k", 14)]) (g := gName 14)  (tt := tTest (tOp (rIn K true) (tOp hIx (tVar 3) (tVar 14)) (tCall spLDer [] E0 (tCons (tSl (rSlL K) (tVar 3) tNoPart (tPart (tVar 14))) tNil))))  rfl sc_law.nd rfl rfl (sw_true rfl rfl rfl (by decide +kernel)) (pi_range1 (by rfl) T.z_range (pa_cons (pe_callB callLen (by rfl) T.z_len PySem.boot_len (pa_cons (pv 3) pa_nil)) pa_nil)) (blkOk_by (own := [("k", 14)]) (N := sc_law_N) (sc := defScope s_law) (by decide +kernel)) (fun _ _ _ _ _ => (pg_name (i := 14) sc_law.nd rfl (.inl rfl))) (fun _ _ _ _ _ => by exact (pts_one (pt_cmpR op_notIn_seq (pe_ix ixH (pv 3) (pv 14) (fun _ _ => rfl)) (pe_call G_law_derived (hr.mono (by first | decide | exact Nat.le_refl _ | omega)) (by rfl) T.g_law_derived T.F_law_derived.kp T.b_law_derived .nil pass0 (pa_cons (pe_slice sl_list (pv 3) po_none (po_some (pv 14))) pa_nil)) (by rfl)))) (fun _ _ _ _ _ => (pv 14)))
      (pss_cons (ps_if (PW.pt (pw_or (pt_not (pt_val (pe_call G_law_same (hr.mono (by first | decide | exact Nat.le_refl _ | omega)) (by rfl) T.g_law_same T.F_law_same.kp T.b_law_same .nil pass0 (pa_cons (pe_call G_message_rank (hr.mono (by first | decide | exact Nat.le_refl _ | omega)) (by rfl) T.g_message_rank T.F_message_rank.kp T.b_message_rank .nil (passes_call (E := E0) takes0 (fun _ _ _ _ z => z)) (pa_cons (pe_call G_law_shaped (hr.mono (by first | decide | exact Nat.le_refl _ | omega)) (by rfl) T.g_law_shaped T.F_law_shaped.kp T.b_law_shaped .nil pass0 (pa_cons (pv 1) (pa_cons (pe_call G_law_lettered (hr.mono (by first | decide | exact Nat.le_refl _ | omega)) (by rfl) T.g_law_lettered T.F_law_lettered.kp T.b_law_lettered .nil pass0 (pa_cons (pv 1) (pa_cons (pv 3) pa_nil))) pa_nil))) pa_nil)) (pa_cons (pe_callB callLen (by rfl) T.z_len PySem.boot_len (pa_cons (pv 5) pa_nil)) pa_nil))))) (pw_or1 (pt_cmpR op_ne (pe_callB callLen (by rfl) T.z_len PySem.boot_len (pa_cons (pv 5) pa_nil)) (pe_call G_law_rank (hr.mono (by first | decide | exact Nat.le_refl _ | omega)) (by rfl) T.g_law_rank T.F_law_rank.kp T.b_law_rank .nil pass0 (pa_cons (pv 3) pa_nil)) (nomark _)))))
      (pss_one (ps_ret pe_bl))
      pss_nil)
      (pss_cons (ps_if (pt_not (pt_val (pe_call G_law_same (hr.mono (by first | decide | exact Nat.le_refl _ | omega)) (by rfl) T.g_law_same T.F_law_same.kp T.b_law_same .nil pass0 (pa_cons (pe_call G_basis (hr.mono (by first | decide | exact Nat.le_refl _ | omega)) (by rfl) T.g_basis T.F_basis.kp T.b_basis .nil (passes_call (E := E0) takes0 (fun _ _ _ _ z => z)) (pa_cons (pe_call G_law_shaped (hr.mono (by first | decide | exact Nat.le_refl _ | omega)) (by rfl) T.g_law_shaped T.F_law_shaped.kp T.b_law_shaped .nil pass0 (pa_cons (pv 1) (pa_cons (pe_call G_law_lettered (hr.mono (by first | decide | exact Nat.le_refl _ | omega)) (by rfl) T.g_law_lettered T.F_law_lettered.kp T.b_law_lettered .nil pass0 (pa_cons (pv 1) (pa_cons (pv 3) pa_nil))) pa_nil))) pa_nil)) (pa_cons (pe_callTy callTupB (by rfl) T.z_tuple (by decide +kernel) (pa_cons (pv 5) pa_nil)) pa_nil)))))
      (pss_one (ps_ret pe_bl))
      pss_nil)
      (pss_cons (ps_for PassesOwn.never rfl (pi_range1 (by rfl) T.z_range (pa_cons pe_int pa_nil)) (pg_name (i := 6) sc_law.nd rfl (.inl rfl))
      (pss_cons (ps_set (i := 7) sc_law.nd rfl (.inl rfl) (pe_call G_law_parity (hr.mono (by first | decide | exact Nat.le_refl _ | omega)) (by rfl) T.g_law_parity T.F_law_parity.kp T.b_law_parity .nil pass0 (pa_cons (pv 1) (pa_cons (pv 2) pa_nil))))
      (pss_cons (ps_set (i := 8) sc_law.nd rfl (.inl rfl) (pe_call G_law_lettered (hr.mono (by first | decide | exact Nat.le_refl _ | omega)) (by rfl) T.g_law_lettered T.F_law_lettered.kp T.b_law_lettered .nil pass0 (pa_cons (pv 1) (pa_cons (pe_op op_cat (pv 3) (pe_lst (pa_cons (pv 7) pa_nil))) pa_nil))))
      (pss_cons (ps_set (i := 9) sc_law.nd rfl (.inl rfl) (pe_call G_is_derived (hr.mono (by first | decide | exact Nat.le_refl _ | omega)) (by rfl) T.g_is_derived T.F_is_derived.kp T.b_is_derived .nil (passes_call (E := E0) takes0 (fun _ _ _ _ z => z)) (pa_cons (pe_call G_law_shaped (hr.mono (by first | decide | exact Nat.le_refl _ | omega)) (by rfl) T.g_law_shaped T.F_law_shaped.kp T.b_law_shaped .nil pass0 (pa_cons (pv 1) (pa_cons (pe_slice sl_list (pv 8) po_none (po_some (pe_un un_neg pe_int))) pa_nil))) (pa_cons (pe_ix ixH (pv 8) (pe_un un_neg pe_int) (fun _ _ => rfl)) pa_nil))))
      (pss_one (ps_if (PW.pt (pw_or (pt_not (pt_val (pe_call G_law_same (hr.mono (by first | decide | exact Nat.le_refl _ | omega)) (by rfl) T.g_law_same T.F_law_same.kp T.b_law_same .nil pass0 (pa_cons (pv 9) (pa_cons (pe_cmpR op_in_seq (pv 7) (pv 4) (by rfl)) pa_nil))))) (pw_or1 (pt_cmpR op_eq (pv 9) (pe_call G_law_is_told_apart (hr.mono (by first | decide | exact Nat.le_refl _ | omega)) (by rfl) T.g_law_is_told_apart T.F_law_is_told_apart.kp T.b_law_is_told_apart .nil pass0 (pa_cons (pv 2) (pa_cons (pv 3) (pa_cons (pv 7) pa_nil)))) (nomark _)))))
      (pss_one (ps_ret pe_bl))
      pss_nil))))))
      (pss_cons (ps_set (i := 10) sc_law.nd rfl (.inl rfl) (pe_lst (pa_cons pe_str (pa_cons pe_str (pa_cons pe_str (pa_cons pe_str (pa_cons pe_str (pa_cons pe_str (pa_cons pe_str (pa_cons pe_str (pa_cons pe_str pa_nil)))))))))))
      (pss_cons (ps_set (i := 11) sc_law.nd rfl (.inl rfl) (pe_call G_law_pick (hr.mono (by first | decide | exact Nat.le_refl _ | omega)) (by rfl) T.g_law_pick T.F_law_pick.kp T.b_law_pick .nil pass0 (pa_cons (pv 1) (pa_cons (pv 10) pa_nil))))
      (pss_cons (ps_set (i := 12) sc_law.nd rfl (.inl rfl) (pe_call G_law_take (hr.mono (by first | decide | exact Nat.le_refl _ | omega)) (by rfl) T.g_law_take T.F_law_take.kp T.b_law_take .nil pass0 (pa_cons (pv 1) (pa_cons pe_int pa_nil))))
      (pss_cons (ps_if (pt_not (pt_val (pe_call G_law_same (hr.mono (by first | decide | exact Nat.le_refl _ | omega)) (by rfl) T.g_law_same T.F_law_same.kp T.b_law_same .nil pass0 (pa_cons (pe_call G_law_refused (hr.mono (by first | decide | exact Nat.le_refl _ | omega)) (by rfl) T.g_law_refused T.F_law_refused.kp T.b_law_refused .nil pass0 (pa_cons (pv 12) (pa_cons (pv 3) (pa_cons (pv 11) pa_nil)))) (pa_cons (pv 11) pa_nil)))))
      (pss_one (ps_ret pe_bl))
      pss_nil)
      (pss_cons (ps_set (i := 13) sc_law.nd rfl (.inl rfl) (pe_call G_law_take (hr.mono (by first | decide | exact Nat.le_refl _ | omega)) (by rfl) T.g_law_take T.F_law_take.kp T.b_law_take .nil pass0 (pa_cons (pv 1) (pa_cons (pe_op op_add (pe_callB callLen (by rfl) T.z_len PySem.boot_len (pa_cons (pv 3) pa_nil)) pe_int) pa_nil))))
      (pss_one (ps_ret (pe_call G_law_same (hr.mono (by first | decide | exact Nat.le_refl _ | omega)) (by rfl) T.g_law_same T.F_law_same.kp T.b_law_same .nil pass0 (pa_cons (pe_call G_law_refused (hr.mono (by first | decide | exact Nat.le_refl _ | omega)) (by rfl) T.g_law_refused T.F_law_refused.kp T.b_law_refused .nil pass0 (pa_cons (pv 12) (pa_cons (pe_op op_cat (pe_op op_cat (pe_slice sl_list (pv 3) po_none (po_some (pv 13))) (pe_lst (pa_cons (pv 11) pa_nil))) (pe_slice sl_list (pv 3) (po_some (pv 13)) po_none)) (pa_cons (pe_call G_law_pick (hr.mono (by first | decide | exact Nat.le_refl _ | omega)) (by rfl) T.g_law_pick T.F_law_pick.kp T.b_law_pick .nil pass0 (pa_cons (pv 1) (pa_cons (pv 10) pa_nil))) pa_nil)))) (pa_cons (pv 11) pa_nil)))))))))))))))))), ?_⟩
    simp only [gStr2, gSeqH, tDc_c, tDGet, sDPut, rCat, tBreak, rExtend, tSeq, tAsg, tRet, tRetN, tDrop, tIfS, tNext, tNever, tOp, tUn, tVar, tC, rI0, rI, rU, tTest, tIf, tB, tAnd, tOr, tNot, tAndV, tOrV, tNotV, gName, gSub, gTupH, gCons, gNil, tYes, tCons, tNil, tLst, tTup, tCB, tCall, tMeth, tMake, tFld, sFld, tFor_c, tLc_c, iRng1, iList, iTup, iStr, iSeqB, iEnumB, tM1, tSl, tPart, tNoPart, rSlS, rIxS, tBM, rAppend, tIf, rEq, rNe, scal, hIx, hIxT, hIxB, hSet, hInt, hIntB, hLen, hLenT, hLenB, L2.start, wipe, List.map_cons, List.map_nil, List.set_cons_zero, List.set_cons_succ, List.set_nil, List.length_cons, List.length_nil, List.length_map, List.cons_append, List.nil_append, List.append_nil, List.replicate, List.getElem?_cons_zero, List.getElem?_cons_succ, Option.some.injEq, V.int.injEq, V.bl.injEq, V.ref.injEq, V.str.injEq, List.cons.injEq, exists_eq_left', exists_eq_left, exists_and_left, and_assoc, upd_same, upd_upd, HO.lst.injEq, HO.tup.injEq, atI_0, atI_1, atI_2, atI_3, set_1, set_2, set_3, CDiv, CPow, CMul, List.length_set, Int.reduceToNat, Int.reduceLE, Int.reduceLT, Int.reducePow, Int.reduceNeg, Nat.reduceAdd, Nat.reduceLT, Nat.reduceLeDiff, Nat.reducePow, Nat.zero_add, or_true, true_or, gt_iff_lt, ge_iff_le, and_true, true_and, decide_eq_true_eq, if_true, Bool.false_eq_true, if_false]
    refine ⟨s, ns, rfl, hS, hl, fun G0 H1 p s1 n1 hp => ?_⟩
    obtain ⟨c, hP⟩ := hp.at
    refine take_pool hP (by decide) (by decide) fun v H2 v0 v1 k1 _ p1 => ?_
    obtain ⟨n, rfl⟩ : ∃ n : Nat, v = n := ⟨v.toNat, by omega⟩
    have hn : n ≤ 6 := by omega
    have p2n : 2 ^ n ≤ 64 := Nat.pow_le_pow_right (n := 2) (by decide) hn
    refine ⟨p, c, n, 10, rfl, p1, hn, by decide, fun A D H3 k3 p3 eD Dp hA lA => ?_⟩
    have hA64 : ∀ m ∈ A, m < 64 := fun m hm => Nat.lt_of_lt_of_le (hA m hm) p2n
    refine ⟨D, A, rfl, eD, hA64, by omega, fun ys Ds H4 hperm _ s4 nDs eDs => ?_⟩
    have eD4 := s4 _ _ eD
    have p4 := p3.same s4
    refine ⟨D, rfl, _, eD4, ?_⟩
    have lps : (ps A).length = A.length := List.length_map _
    rw [lps]
    refine ⟨by omega, by omega, ?_⟩
    rw [Int.toNat_natCast]
    refine lcRng (fun i Dk H' => H' Dk = some (.lst (ni ((List.range i).filter fun k => !decide (A.getD k 0 ∈ der (A.take k))))) ∧ Same H4 H') (fun Dk hD => ⟨upd_same, same_new hD⟩) ?_ ?_
    · rintro i Dk H5 hD hi ⟨eDk, s5⟩
      have hmi : A[i]? = some A[i] := List.getElem?_eq_getElem hi
      have hpi : (ps A)[i]? = some (.str (pt A[i])) := by rw [ps, List.getElem?_map, hmi]; rfl
      have m64 := hA64 _ (List.getElem_mem hi)
      have cutK : L2.cutV (ps A) none (some (i : Int)) = ps (A.take i) := by
        unfold L2.cutV
        rw [HT.sIx_none, HT.sIx_nat, lps, Nat.min_eq_left (by omega), Nat.sub_zero, List.drop_zero, ps, ps, List.map_take]
      refine ⟨rfl, ?_⟩
      simp only [gStr2, gSeqH, tDc_c, tDGet, sDPut, rCat, tBreak, rExtend, tSeq, tAsg, tRet, tRetN, tDrop, tIfS, tNext, tNever, tOp, tUn, tVar, tC, rI0, rI, rU, tTest, tIf, tB, tAnd, tOr, tNot, tAndV, tOrV, tNotV, gName, gSub, gTupH, gCons, gNil, tYes, tCons, tNil, tLst, tTup, tCB, tCall, tMeth, tMake, tFld, sFld, tFor_c, tLc_c, iRng1, iList, iTup, iStr, iSeqB, iEnumB, tM1, tSl, tPart, tNoPart, rSlS, rIxS, tBM, rAppend, tIf, rEq, rNe, scal, hIx, hIxT, hIxB, hSet, hInt, hIntB, hLen, hLenT, hLenB, L2.start, wipe, List.map_cons, List.map_nil, List.set_cons_zero, List.set_cons_succ, List.set_nil, List.length_cons, List.length_nil, List.length_map, List.cons_append, List.nil_append, List.append_nil, List.replicate, List.getElem?_cons_zero, List.getElem?_cons_succ, Option.some.injEq, V.int.injEq, V.bl.injEq, V.ref.injEq, V.str.injEq, List.cons.injEq, exists_eq_left', exists_eq_left, exists_and_left, and_assoc, upd_same, upd_upd, HO.lst.injEq, HO.tup.injEq, atI_0, atI_1, atI_2, atI_3, set_1, set_2, set_3, CDiv, CPow, CMul, List.length_set, Int.reduceToNat, Int.reduceLE, Int.reduceLT, Int.reducePow, Int.reduceNeg, Nat.reduceAdd, Nat.reduceLT, Nat.reduceLeDiff, Nat.reducePow, Nat.zero_add, or_true, true_or, gt_iff_lt, ge_iff_le, and_true, true_and, decide_eq_true_eq, if_true, Bool.false_eq_true, if_false]
      have eD5 := s5 _ _ eD4
      refine ⟨_, eD5, _, by rw [Int.zero_add]; exact atI_nat hpi, D, ps A, rfl, SqL.of eD5, fun p6 hp6 => ?_⟩
      rw [Int.zero_add, cutK]
      have s6 := same_new (o := .lst (ps (A.take i))) hp6
      refine ⟨p6, A.take i, rfl, upd_same, fun m hm => hA64 m (List.mem_of_mem_take hm), by rw [List.length_take]; omega, fun zs D7 H7 hp2 _ s7 nD7 eD7 => ?_⟩
      refine ⟨D7, _, rfl, .inl (SqL.of eD7), rfl, flat_strs _, ?_⟩
      rw [in_strs, if_pos rfl]
      have hin : decide (pt A[i] ∈ zs) = decide (A.getD i 0 ∈ der (A.take i)) := by
        rw [show A.getD i 0 = A[i] from by rw [List.getD_eq_getElem?_getD, hmi]; rfl, decide_eq_decide, hp2.mem_iff, List.mem_map]
        refine ⟨fun ⟨m', h1, h2⟩ => ?_, fun h => ⟨_, h, rfl⟩⟩
        have hlt := der_lt (fun m hm => hA64 m (List.mem_of_mem_take hm)) m' h1
        have e2 := pt_inj (by omega) (by omega) h2
        rw [← e2]
        exact h1
      have s67 := Same.tr s6 s7
      have key : ((List.range (i + 1)).filter fun k => !decide (A.getD k 0 ∈ der (A.take k))) = ((List.range i).filter fun k => !decide (A.getD k 0 ∈ der (A.take k))) ++ if (!decide (A.getD i 0 ∈ der (A.take i))) = true then [i] else [] := by
        rw [List.range_succ, List.filter_append, List.filter_cons]
        rfl
      have lk : ((List.range i).filter fun k => !decide (A.getD k 0 ∈ der (A.take k))).length ≤ 100 := by
        refine Nat.le_trans (List.length_filter_le _ _) ?_
        rw [List.length_range]
        omega
      rw [hin, key]
      refine ⟨_, rfl, ite2 (fun cc => ?_) fun cc => ?_⟩
      · rw [if_pos cc]
        exact ⟨_, s67 _ _ eDk, by rw [ni_len]; exact small1000 (by omega), by rw [ni_snoc], same_out (Same.tr s5 s67) hD⟩
      · rw [if_neg cc, List.append_nil]
        exact ⟨s67 _ _ eDk, Same.tr s5 s67⟩
    rintro F H5 hF ⟨eF, s5⟩
    rw [← basS] at eF
    have eD5 := s5 _ _ eD4
    have eDs5 := s5 _ _ eDs
    have p5 := p4.same s5
    have nFp := p4.ne_p hF
    have nDsp : Ds ≠ p := p3.ne_p nDs
    have w256 : ∀ {b : Bool} {L : List Nat}, (∀ m ∈ L, m < 64) → ∀ m ∈ L.map (lm b), m < 256 := fun {b L} h m hm => by
      obtain ⟨x, hx, rfl⟩ := List.mem_map.mp hm
      exact lm_lt (h x hx)
    have lB : (bas A [] 0).length ≤ 10 := by
      rw [bas_len, cho_rank]
      have := rank_len A
      omega
    refine ⟨p, c, D, A, rfl, p5, eD5, Dp, hA64, by omega, fun b1 E1 H6 k6 p6 e6 E1p => ?_⟩
    refine ⟨p, c, E1, _, rfl, p6, e6, E1p, by rw [List.length_map, List.length_map]; omega, fun t7 H7 k7 p7 r7 t7p => ?_⟩
    refine ⟨t7, (A.map (lm b1)).map pt, rfl, by rw [psmap]; exact r7, by rw [List.length_map, List.length_map]; omega, .inl ⟨_, rfl, w256 hA64, fun H8 s8 => ?_⟩⟩
    have k58 := k6.tr (k7.tr (Off1.of s8))
    have p8 := p7.same s8
    have eF8 := k58 _ _ nFp eF
    have eD8 := k58 _ _ Dp eD5
    refine ⟨F, rfl, _, eF8, ?_⟩
    rw [rank_lm hA64, ni_len, show (bas A [] 0).length = rank A from by rw [bas_len, cho_rank]]
    refine ⟨_, _, rfl, .int _ _, fun H9 s9 => ⟨true, rfl, iteF ⟨F, rfl, _, s9 _ _ eF8, ?_⟩⟩⟩
    rw [ni_len, show (bas A [] 0).length = rank A from by rw [bas_len, cho_rank]]
    refine ⟨D, A, rfl, s9 _ _ eD8, hA64, by omega, fun H10 s10 => ⟨rfl, ?_⟩⟩
    rw [decide_eq_true rfl]
    refine iteF ?_
    have s810 := Same.tr s9 s10
    have k510 := k58.tr (Off1.of s810)
    have p10 := p8.same s810
    refine ⟨p, c, D, A, rfl, p10, k510 _ _ Dp eD5, Dp, hA64, by omega, fun b2 E2 H11 k11 p11 e11 E2p => ?_⟩
    refine ⟨p, c, E2, _, rfl, p11, e11, E2p, by rw [List.length_map, List.length_map]; omega, fun t12 H12 k12 p12 r12 t12p => ?_⟩
    refine ⟨t12, (A.map (lm b2)).map pt, rfl, by rw [psmap]; exact r12, by rw [List.length_map, List.length_map]; omega, .inl ⟨_, rfl, w256 hA64, fun D13 H13 s13 e13 => ?_⟩⟩
    have k513 := k510.tr (k11.tr (k12.tr (Off1.of s13)))
    have p13 := p12.same s13
    refine ⟨F, _, rfl, .inl (k513 _ _ nFp eF), fun t14 H14 s14 _ e14 => ?_⟩
    rw [bas_lm hA64] at e13
    refine ⟨_, _, rfl, ni_same 0 (s14 _ _ e13) e14 (by omega), fun H15 s15 => ⟨true, rfl, iteF ?_⟩⟩
    have k515 := k513.tr (Off1.of (Same.tr s14 s15))
    have p15 := (p13.same s14).same s15
    have eD15 := k515 _ _ Dp eD5
    have eDs15 := k515 _ _ nDsp eDs5
    refine forRng (n := 4) (fun i σ H' => (∃ v6 v7 v8 v9 : Option V, σ = [some (.ref s), some (.ref p), some (.int (n : Int)), some (.ref D), some (.ref Ds), some (.ref F), v6, v7, v8, v9, none, none, none, none, none]) ∧ PoolAt H' p c ∧ H' D = some (.lst (ps A)) ∧ H' Ds = some (.lst (ys.map V.str))) ⟨⟨none, none, none, none, rfl⟩, p15, eD15, eDs15⟩ ?_ ?_
    · rintro i σ H16 hi ⟨⟨v6, v7, v8, v9, rfl⟩, p16, eD16, eDs16⟩
      simp only [gStr2, gSeqH, tDc_c, tDGet, sDPut, rCat, tBreak, rExtend, tSeq, tAsg, tRet, tRetN, tDrop, tIfS, tNext, tNever, tOp, tUn, tVar, tC, rI0, rI, rU, tTest, tIf, tB, tAnd, tOr, tNot, tAndV, tOrV, tNotV, gName, gSub, gTupH, gCons, gNil, tYes, tCons, tNil, tLst, tTup, tCB, tCall, tMeth, tMake, tFld, sFld, tFor_c, tLc_c, iRng1, iList, iTup, iStr, iSeqB, iEnumB, tM1, tSl, tPart, tNoPart, rSlS, rIxS, tBM, rAppend, tIf, rEq, rNe, scal, hIx, hIxT, hIxB, hSet, hInt, hIntB, hLen, hLenT, hLenB, L2.start, wipe, List.map_cons, List.map_nil, List.set_cons_zero, List.set_cons_succ, List.set_nil, List.length_cons, List.length_nil, List.length_map, List.cons_append, List.nil_append, List.append_nil, List.replicate, List.getElem?_cons_zero, List.getElem?_cons_succ, Option.some.injEq, V.int.injEq, V.bl.injEq, V.ref.injEq, V.str.injEq, List.cons.injEq, exists_eq_left', exists_eq_left, exists_and_left, and_assoc, upd_same, upd_upd, HO.lst.injEq, HO.tup.injEq, atI_0, atI_1, atI_2, atI_3, set_1, set_2, set_3, CDiv, CPow, CMul, List.length_set, Int.reduceToNat, Int.reduceLE, Int.reduceLT, Int.reducePow, Int.reduceNeg, Nat.reduceAdd, Nat.reduceLT, Nat.reduceLeDiff, Nat.reducePow, Nat.zero_add, or_true, true_or, gt_iff_lt, ge_iff_le, and_true, true_and, decide_eq_true_eq, if_true, Bool.false_eq_true, if_false]
      refine ⟨p, c, n, rfl, p16, fun m H17 _ mlt k17 p17 => ?_⟩
      have mlt := mlt hn
      have eD17 := k17 _ _ Dp eD16
      have eDs17 := k17 _ _ nDsp eDs16
      refine ⟨by decide, fun q1 h1 => ?_⟩
      have s18 := same_new (o := .lst [V.str (pt m)]) h1
      refine ⟨_, s18 _ _ eD17, by rw [lps]; exact sizeLe (by omega), fun q2 h2 => ?_⟩
      rw [show ps A ++ [V.str (pt m)] = ps (A ++ [m]) from by rw [ps, ps, List.map_append]; rfl]
      have s19 := same_new (o := .lst (ps (A ++ [m]))) h2
      have s1719 := Same.tr s18 s19
      have p19 := p17.same s1719
      have q2p : q2 ≠ p := (p17.same s18).ne_p h2
      have hAm : ∀ x ∈ A ++ [m], x < 64 := fun x hx => by
        rcases List.mem_append.mp hx with z | z
        · exact hA64 x z
        · rw [List.mem_singleton.mp z]; omega
      refine ⟨p, c, q2, A ++ [m], rfl, p19, upd_same, q2p, hAm, by rw [List.length_append, List.length_singleton]; omega, fun b E3 H20 k20 p20 e20 E3p => ?_⟩
      rw [show ps ((A ++ [m]).map (lm b)) = ps (A.map (lm b)) ++ [V.str (pt (lm b m))] from by rw [List.map_append, ps, ps, List.map_append]; rfl] at e20
      refine ⟨E3, _, rfl, SqL.of e20, fun S nS => ?_⟩
      rw [cutV_last]
      have s21 := same_new (o := .lst (ps (A.map (lm b)))) nS
      have eS := upd_same (H := H20) (a := S) (o := .lst (ps (A.map (lm b))))
      generalize upd H20 S (.lst (ps (A.map (lm b)))) = H21 at s21 eS
      have e21 := s21 _ _ e20
      refine ⟨p, c, S, _, rfl, p20.same s21, eS, p20.ne_p nS, by rw [List.length_map, List.length_map]; omega, fun t22 H22 k22 p22 r22 t22p => ?_⟩
      refine ⟨E3, rfl, _, k22 _ _ E3p e21, _, AK.atI_last _ _, ?_⟩
      have k1722 : Off1 p H17 H22 := (Off1.of s1719).tr (k20.tr ((Off1.of s21).tr k22))
      refine ⟨t22, (A.map (lm b)).map pt, pt (lm b m), rfl, by rw [psmap]; exact r22, by rw [List.length_map, List.length_map]; omega, .inl ⟨A.map (lm b), lm b m, rfl, rfl, w256 hA64, lm_lt (show m < 64 by omega), fun H23 s23 => ?_⟩⟩
      have k1723 := k1722.tr (Off1.of s23)
      have eDs23 := k1723 _ _ nDsp eDs17
      have eD23 := k1723 _ _ Dp eD17
      refine ⟨Ds, _, rfl, .inl (SqL.of eDs23), rfl, flat_strs _, ?_⟩
      rw [in_strs, if_neg (by decide)]
      have e1 : decide (rem (spn (A.map (lm b)) []) (lm b m) = 0) = decide (m ∈ der A) := decide_eq_decide.mpr (by rw [rem_S0, S_lm hA64 (show m < 64 by omega), der_mem])
      have e2 : decide (pt m ∈ ys) = decide (m ∈ der A) := by
        refine decide_eq_decide.mpr ⟨fun z => ?_, fun z => hperm.mem_iff.mpr (List.mem_map_of_mem z)⟩
        obtain ⟨x, hx, e⟩ := List.mem_map.mp (hperm.mem_iff.mp z)
        have := der_lt hA64 x hx
        exact pt_inj (by omega) (by omega) e ▸ hx
      rw [e1, e2]
      refine ⟨_, _, rfl, .bl _ _, fun H24 s24 => ⟨true, rfl, iteF ?_⟩⟩
      refine ⟨n, D, A, m, rfl, s24 _ _ eD23, hn, hA, mlt, by omega, fun H25 s25 => ⟨rfl, ?_⟩⟩
      have s2325 := Same.tr s24 s25
      rw [if_neg (show ¬ (V.bl (decide (m ∈ der A)) = V.bl (!decide (m ∈ der A))) from fun z => by cases e : decide (m ∈ der A) <;> rw [e] at z <;> cases V.bl.inj z)]
      exact ⟨⟨_, rfl⟩, (p22.same s23).same s2325, s2325 _ _ eD23, s2325 _ _ eDs23⟩
    · rintro σ H16 ⟨⟨v6, v7, v8, v9, rfl⟩, p16, eD16, eDs16⟩
      simp only [gStr2, gSeqH, tDc_c, tDGet, sDPut, rCat, tBreak, rExtend, tSeq, tAsg, tRet, tRetN, tDrop, tIfS, tNext, tNever, tOp, tUn, tVar, tC, rI0, rI, rU, tTest, tIf, tB, tAnd, tOr, tNot, tAndV, tOrV, tNotV, gName, gSub, gTupH, gCons, gNil, tYes, tCons, tNil, tLst, tTup, tCB, tCall, tMeth, tMake, tFld, sFld, tFor_c, tLc_c, iRng1, iList, iTup, iStr, iSeqB, iEnumB, tM1, tSl, tPart, tNoPart, rSlS, rIxS, tBM, rAppend, tIf, rEq, rNe, scal, hIx, hIxT, hIxB, hSet, hInt, hIntB, hLen, hLenT, hLenB, L2.start, wipe, List.map_cons, List.map_nil, List.set_cons_zero, List.set_cons_succ, List.set_nil, List.length_cons, List.length_nil, List.length_map, List.cons_append, List.nil_append, List.append_nil, List.replicate, List.getElem?_cons_zero, List.getElem?_cons_succ, Option.some.injEq, V.int.injEq, V.bl.injEq, V.ref.injEq, V.str.injEq, List.cons.injEq, exists_eq_left', exists_eq_left, exists_and_left, and_assoc, upd_same, upd_upd, HO.lst.injEq, HO.tup.injEq, atI_0, atI_1, atI_2, atI_3, set_1, set_2, set_3, CDiv, CPow, CMul, List.length_set, Int.reduceToNat, Int.reduceLE, Int.reduceLT, Int.reducePow, Int.reduceNeg, Nat.reduceAdd, Nat.reduceLT, Nat.reduceLeDiff, Nat.reducePow, Nat.zero_add, or_true, true_or, gt_iff_lt, ge_iff_le, and_true, true_and, decide_eq_true_eq, if_true, Bool.false_eq_true, if_false]
      refine ⟨by decide, fun q1 h1 => ?_⟩
      have s17 := same_new (o := .lst (strg.map V.str)) h1
      have eq1 := upd_same (H := H16) (a := q1) (o := .lst (strg.map V.str))
      show spPick [V.ref p, V.ref q1] (upd H16 q1 (.lst (strg.map V.str))) _ _
      generalize upd H16 q1 (.lst (strg.map V.str)) = H17 at s17 eq1
      have p17 := p16.same s17
      have q1p := p16.ne_p h1
      have eD17 := s17 _ _ eD16
      refine ⟨p, c, q1, _, rfl, p17, eq1, q1p, (by intro z; cases z), by decide, fun x H18 hx k18 p18 => ?_⟩
      obtain ⟨w1, hw1, rfl⟩ := List.mem_map.mp hx
      have hb1 := strg_bad w1 hw1
      refine take_pool p18 (by decide) (by decide) fun kd H19 _ _ k19 _ p19 => ?_
      have k1719 := k18.tr k19
      have eD19 := k1719 _ _ Dp eD17
      refine ⟨kd, D, A.map pt, w1, A, w1, [], rfl, by rw [psmap]; exact eD19, by rw [List.length_map]; omega, rfl, fun m hm => by have := hA64 m hm; omega, hb1, fun H20 s20 => ?_⟩
      refine ⟨_, _, rfl, .str _ _, fun H21 s21 => ⟨true, rfl, iteF ?_⟩⟩
      have s1921 := Same.tr s20 s21
      have eD21 := s1921 _ _ eD19
      refine ⟨_, eD21, ?_⟩
      rw [lps]
      refine take_pool (p19.same s1921) (by omega) (by omega) fun at0 H22 a0 a1 k22 _ p22 => ?_
      obtain ⟨i, rfl⟩ := Int.eq_ofNat_of_zero_le a0
      have hi : i ≤ A.length := by omega
      have eD22 := k22 _ _ Dp eD21
      have eq22 := k22 _ _ q1p (s1921 _ _ (k1719 _ _ q1p eq1))
      have cutT : L2.cutV (ps A) none (some (i : Int)) = ps (A.take i) := by
        unfold L2.cutV
        rw [HT.sIx_none, HT.sIx_nat, lps, Nat.min_eq_left hi, Nat.sub_zero, List.drop_zero, ps, ps, List.map_take]
      refine ⟨_, rfl, D, _, rfl, SqL.of eD22, fun S1 nS1 => ?_⟩
      rw [cutT]
      have s23 := same_new (o := .lst (ps (A.take i))) nS1
      have eS1 := upd_same (H := H22) (a := S1) (o := .lst (ps (A.take i)))
      generalize upd H22 S1 (.lst (ps (A.take i))) = H23 at s23 eS1
      refine ⟨by decide, fun q3 h3 => ?_⟩
      have s24 := same_new (o := .lst [V.str w1]) h3
      generalize upd H23 q3 (.lst [V.str w1]) = H24 at s24
      have lT : (ps (A.take i)).length ≤ 10 := by rw [List.length_map, List.length_take]; omega
      refine ⟨S1, rfl, _, s24 _ _ eS1, sizeLe (by omega), fun q4 h4 => ?_⟩
      have s25 := same_new (o := .lst (ps (A.take i) ++ [V.str w1])) h4
      have eq4 := upd_same (H := H24) (a := q4) (o := .lst (ps (A.take i) ++ [V.str w1]))
      generalize upd H24 q4 (.lst (ps (A.take i) ++ [V.str w1])) = H25 at s25 eq4
      have s2225 := Same.tr s23 (Same.tr s24 s25)
      refine ⟨_, rfl, D, _, rfl, SqL.of (s2225 _ _ eD22), fun S2 nS2 => ?_⟩
      have cutD : L2.cutV (ps A) (some (i : Int)) none = ps (A.drop i) := by
        unfold L2.cutV
        rw [HT.sIx_none, HT.sIx_nat, lps, Nat.min_eq_left hi, ps, ps, List.map_drop, List.take_of_length_le (by rw [List.length_drop, List.length_map]; omega)]
      rw [cutD]
      have s26 := same_new (o := .lst (ps (A.drop i))) nS2
      have eS2 := upd_same (H := H25) (a := S2) (o := .lst (ps (A.drop i)))
      generalize upd H25 S2 (.lst (ps (A.drop i))) = H26 at s26 eS2
      have lD : (ps (A.drop i)).length ≤ 10 := by rw [List.length_map, List.length_drop]; omega
      have lS : (ps (A.take i) ++ [V.str w1]).length + (ps (A.drop i)).length ≤ 1000 := by
        rw [List.length_append, List.length_singleton]
        omega
      refine ⟨S2, rfl, _, s26 _ _ eq4, _, eS2, sizeLe lS, fun R nR => ?_⟩
      have eL : ps (A.take i) ++ [V.str w1] ++ ps (A.drop i) = ((A.take i).map pt ++ w1 :: (A.drop i).map pt).map V.str := by
        rw [List.map_append, List.map_cons, psmap, psmap, List.append_assoc]
        rfl
      rw [eL]
      have s27 := same_new (o := .lst (((A.take i).map pt ++ w1 :: (A.drop i).map pt).map V.str)) nR
      have eR := upd_same (H := H26) (a := R) (o := .lst (((A.take i).map pt ++ w1 :: (A.drop i).map pt).map V.str))
      generalize upd H26 R (.lst (((A.take i).map pt ++ w1 :: (A.drop i).map pt).map V.str)) = H27 at s27 eR
      have s2227 := Same.tr s2225 (Same.tr s26 s27)
      have Rp : R ≠ p := ((p22.same s2225).same s26).ne_p nR
      refine ⟨p, c, q1, _, rfl, p22.same s2227, s2227 _ _ eq22, q1p, (by intro z; cases z), by decide, fun x2 H28 hx2 k28 p28 => ?_⟩
      obtain ⟨w2, hw2, rfl⟩ := List.mem_map.mp hx2
      refine ⟨kd, R, _, w2, A.take i, w1, (A.drop i).map pt ++ [w2], rfl, k28 _ _ Rp eR, by rw [List.length_append, List.length_map, List.length_cons, List.length_map, List.length_take, List.length_drop]; omega, by rw [List.append_assoc]; rfl, fun m hm => by have := hA64 m (List.mem_of_mem_take hm); omega, hb1, fun H29 s29 => ?_⟩
      exact ⟨_, _, rfl, .str _ _, fun H30 s30 => q H30⟩
end
end AK
set_option Elab.async false
set_option linter.all false
set_option maxRecDepth 100000
set_option maxHeartbeats 0
namespace AK
open PySem PySem.Spec PyProof.Rows L2
theorem law_at {l : PySem.W.OpenLaw} {w : World} {K : PySem.W.Frag} {mg : Str → Option Value} {h : Heap} {fa : Addr} {a : Ads} (X : K.In h) (T : Txt K mg a) (ea : a.a_law = fa) :
    LamX.LawAtS l w K CX0 9 63 "script" mg fa h := by
  subst ea
  refine ⟨a.d_law, [], spLaw K, (fun p hp => (List.not_mem_nil hp).elim), (fun p hp => (List.not_mem_nil hp).elim), (fun p hp => (List.not_mem_nil hp).elim), ?_, ?_, ?_⟩
  · intro s u
    exact T.B_law s u
  · intro H b ns hl hb hH hS
    exact ⟨b, ns, rfl, hS, hl, fun _ => rfl⟩
  · intro base hb hg hT
    exact ok_law T
theorem txt_of {K : PySem.W.Frag} {h : Heap} {mg : Str → Option Value} {w : World} (X : K.In h) (G : h.Ns mainGlobals mg) (c : He.SaysX faL fnL [] tfL exB w h K) :
    ∃ a : Ads, Txt K mg a ∧ a.a_law = He.ga K "law" := by
  have hx : ∀ (i : Nat) {b : Bool}, (exL K)[i]? = some b → b = true := fun i b e => List.all_eq_true.mp c.more b (List.mem_of_getElem? e)
  obtain ⟨fd_first_letters, FD_first_letters⟩ := c.t.d.def_ 0 (d := dd_first_letters) rfl
  have F_first_letters : Fun K "first_letters" "first_letters" s_first_letters (He.fAd K ("first_letters", none)) fd_first_letters := fun_of FD_first_letters
  have b_first_letters := F_first_letters.binds (ps := ["letters", "count"]) fun _ _ _ _ _ _ us hl => match us, hl with | [_, _], _ => rfl
  obtain ⟨fd_is_ascending, FD_is_ascending⟩ := c.t.d.def_ 1 (d := dd_is_ascending) rfl
  have F_is_ascending : Fun K "is_ascending" "is_ascending" s_is_ascending (He.fAd K ("is_ascending", none)) fd_is_ascending := fun_of FD_is_ascending
  have b_is_ascending := F_is_ascending.binds (ps := ["letters", "text"]) fun _ _ _ _ _ _ us hl => match us, hl with | [_, _], _ => rfl
  obtain ⟨fd_is_parity, FD_is_parity⟩ := c.t.d.def_ 2 (d := dd_is_parity) rfl
  have F_is_parity : Fun K "is_parity" "is_parity" s_is_parity (He.fAd K ("is_parity", none)) fd_is_parity := fun_of FD_is_parity
  have b_is_parity := F_is_parity.binds (ps := ["text"]) fun _ _ _ _ _ _ us hl => match us, hl with | [_], _ => rfl
  obtain ⟨fd_mask_of, FD_mask_of⟩ := c.t.d.def_ 3 (d := dd_mask_of) rfl
  have F_mask_of : Fun K "mask_of" "mask_of" s_mask_of (He.fAd K ("mask_of", none)) fd_mask_of := fun_of FD_mask_of
  have b_mask_of := F_mask_of.binds (ps := ["parity"]) fun _ _ _ _ _ _ us hl => match us, hl with | [_], _ => rfl
  obtain ⟨fd_text_of, FD_text_of⟩ := c.t.d.def_ 4 (d := dd_text_of) rfl
  have F_text_of : Fun K "text_of" "text_of" s_text_of (He.fAd K ("text_of", none)) fd_text_of := fun_of FD_text_of
  have b_text_of := F_text_of.binds (ps := ["mask"]) fun _ _ _ _ _ _ us hl => match us, hl with | [_], _ => rfl
  obtain ⟨fd_is_odd, FD_is_odd⟩ := c.t.d.def_ 5 (d := dd_is_odd) rfl
  have F_is_odd : Fun K "is_odd" "is_odd" s_is_odd (He.fAd K ("is_odd", none)) fd_is_odd := fun_of FD_is_odd
  have b_is_odd := F_is_odd.binds (ps := ["mask", "assignment"]) fun _ _ _ _ _ _ us hl => match us, hl with | [_, _], _ => rfl
  obtain ⟨fd_remainder, FD_remainder⟩ := c.t.d.def_ 6 (d := dd_remainder) rfl
  have F_remainder : Fun K "remainder" "remainder" s_remainder (He.fAd K ("remainder", none)) fd_remainder := fun_of FD_remainder
  have b_remainder := F_remainder.binds (ps := ["span", "mask"]) fun _ _ _ _ _ _ us hl => match us, hl with | [_, _], _ => rfl
  obtain ⟨fd_spanned, FD_spanned⟩ := c.t.d.def_ 7 (d := dd_spanned) rfl
  have b_spanned : Binds K fd_spanned ["masks", "span"] [] := def_all FD_spanned 2 rfl (fun _ _ _ _ _ _ _ us its hl hi => match us, its, hl, hi with | [_, _], [_], _, _ => ⟨_, rfl, rfl⟩)
  have b1_spanned : ∃ ds, Vals [V.ref (He.dflAt ("spanned", none) 0 K)] ds ∧ Binds K fd_spanned ["masks", "span"] ds := FunD.binds1 FD_spanned 1 0 (by simp [He.DefD.dvs, dd_spanned]) (by rfl) (fun _ _ _ _ _ _ _ us its hl hi => match us, its, hl, hi with | [_], [_], _, _ => ⟨_, rfl, rfl⟩)
  obtain ⟨fd_basis_indices, FD_basis_indices⟩ := c.t.d.def_ 8 (d := dd_basis_indices) rfl
  have F_basis_indices : Fun K "basis_indices" "basis_indices" s_basis_indices (He.fAd K ("basis_indices", none)) fd_basis_indices := fun_of FD_basis_indices
  have b_basis_indices := F_basis_indices.binds (ps := ["masks"]) fun _ _ _ _ _ _ us hl => match us, hl with | [_], _ => rfl
  obtain ⟨fd_BadParity_init, FD_BadParity_init⟩ := c.t.d.def_ 9 (d := dd_BadParity_init) rfl
  have F_BadParity_init : Fun K "__init__" "BadParity.__init__" s_BadParity_init (He.fAd K ("BadParity", some "__init__")) fd_BadParity_init := fun_of FD_BadParity_init
  have b_BadParity_init := F_BadParity_init.binds (ps := ["self", "text"]) fun _ _ _ _ _ _ us hl => match us, hl with | [_, _], _ => rfl
  obtain ⟨fd_message_rank, FD_message_rank⟩ := c.t.d.def_ 10 (d := dd_message_rank) rfl
  have F_message_rank : Fun K "message_rank" "message_rank" s_message_rank (He.fAd K ("message_rank", none)) fd_message_rank := fun_of FD_message_rank
  have b_message_rank := F_message_rank.binds (ps := ["messages"]) fun _ _ _ _ _ _ us hl => match us, hl with | [_], _ => rfl
  obtain ⟨fd_is_derived, FD_is_derived⟩ := c.t.d.def_ 11 (d := dd_is_derived) rfl
  have F_is_derived : Fun K "is_derived" "is_derived" s_is_derived (He.fAd K ("is_derived", none)) fd_is_derived := fun_of FD_is_derived
  have b_is_derived := F_is_derived.binds (ps := ["messages", "parity"]) fun _ _ _ _ _ _ us hl => match us, hl with | [_, _], _ => rfl
  obtain ⟨fd_basis, FD_basis⟩ := c.t.d.def_ 12 (d := dd_basis) rfl
  have F_basis : Fun K "basis" "basis" s_basis (He.fAd K ("basis", none)) fd_basis := fun_of FD_basis
  have b_basis := F_basis.binds (ps := ["messages"]) fun _ _ _ _ _ _ us hl => match us, hl with | [_], _ => rfl
  obtain ⟨fd_combination, FD_combination⟩ := c.t.d.def_ 13 (d := dd_combination) rfl
  have F_combination : Fun K "combination" "combination" s_combination (He.fAd K ("combination", none)) fd_combination := fun_of FD_combination
  have b_combination := F_combination.binds (ps := ["messages", "parity"]) fun _ _ _ _ _ _ us hl => match us, hl with | [_, _], _ => rfl
  obtain ⟨fd_separating, FD_separating⟩ := c.t.d.def_ 14 (d := dd_separating) rfl
  have F_separating : Fun K "separating" "separating" s_separating (He.fAd K ("separating", none)) fd_separating := fun_of FD_separating
  have b_separating := F_separating.binds (ps := ["variables", "messages", "parity"]) fun _ _ _ _ _ _ us hl => match us, hl with | [_, _, _], _ => rfl
  obtain ⟨fd_redundant, FD_redundant⟩ := c.t.d.def_ 15 (d := dd_redundant) rfl
  have F_redundant : Fun K "redundant" "redundant" s_redundant (He.fAd K ("redundant", none)) fd_redundant := fun_of FD_redundant
  have b_redundant := F_redundant.binds (ps := ["messages"]) fun _ _ _ _ _ _ us hl => match us, hl with | [_], _ => rfl
  obtain ⟨fd_is_equivalent, FD_is_equivalent⟩ := c.t.d.def_ 16 (d := dd_is_equivalent) rfl
  have F_is_equivalent : Fun K "is_equivalent" "is_equivalent" s_is_equivalent (He.fAd K ("is_equivalent", none)) fd_is_equivalent := fun_of FD_is_equivalent
  have b_is_equivalent := F_is_equivalent.binds (ps := ["first", "second"]) fun _ _ _ _ _ _ us hl => match us, hl with | [_, _], _ => rfl
  obtain ⟨fd_odd_ones, FD_odd_ones⟩ := c.t.d.def_ 17 (d := dd_odd_ones) rfl
  have F_odd_ones : Fun K "odd_ones" "odd_ones" s_odd_ones (He.fAd K ("odd_ones", none)) fd_odd_ones := fun_of FD_odd_ones
  have b_odd_ones := F_odd_ones.binds (ps := ["messages", "assignment"]) fun _ _ _ _ _ _ us hl => match us, hl with | [_, _], _ => rfl
  obtain ⟨fd_assignments, FD_assignments⟩ := c.t.d.def_ 18 (d := dd_assignments) rfl
  have F_assignments : Fun K "assignments" "assignments" s_assignments (He.fAd K ("assignments", none)) fd_assignments := fun_of FD_assignments
  have b_assignments := F_assignments.binds (ps := ["variables", "messages", "told"]) fun _ _ _ _ _ _ us hl => match us, hl with | [_, _, _], _ => rfl
  obtain ⟨fd_parity_mask, FD_parity_mask⟩ := c.t.d.def_ 19 (d := dd_parity_mask) rfl
  have F_parity_mask : Fun K "parity_mask" "parity_mask" s_parity_mask (He.fAd K ("parity_mask", none)) fd_parity_mask := fun_of FD_parity_mask
  have b_parity_mask := F_parity_mask.binds (ps := ["text"]) fun _ _ _ _ _ _ us hl => match us, hl with | [_], _ => rfl
  obtain ⟨fd_message_masks, FD_message_masks⟩ := c.t.d.def_ 20 (d := dd_message_masks) rfl
  have F_message_masks : Fun K "_message_masks" "_message_masks" s_message_masks (He.fAd K ("_message_masks", none)) fd_message_masks := fun_of FD_message_masks
  have b_message_masks := F_message_masks.binds (ps := ["messages"]) fun _ _ _ _ _ _ us hl => match us, hl with | [_], _ => rfl
  obtain ⟨fd_assignment_masks, FD_assignment_masks⟩ := c.t.d.def_ 21 (d := dd_assignment_masks) rfl
  have F_assignment_masks : Fun K "_assignment_masks" "_assignment_masks" s_assignment_masks (He.fAd K ("_assignment_masks", none)) fd_assignment_masks := fun_of FD_assignment_masks
  have b_assignment_masks := F_assignment_masks.binds (ps := ["variables"]) fun _ _ _ _ _ _ us hl => match us, hl with | [_], _ => rfl
  obtain ⟨fd_gives, FD_gives⟩ := c.t.d.def_ 22 (d := dd_gives) rfl
  have F_gives : Fun K "_gives" "_gives" s_gives (He.fAd K ("_gives", none)) fd_gives := fun_of FD_gives
  have b_gives := F_gives.binds (ps := ["assignment", "wanted"]) fun _ _ _ _ _ _ us hl => match us, hl with | [_, _], _ => rfl
  obtain ⟨fd_is_derived_from_others, FD_is_derived_from_others⟩ := c.t.d.def_ 23 (d := dd_is_derived_from_others) rfl
  have F_is_derived_from_others : Fun K "_is_derived_from_others" "_is_derived_from_others" s_is_derived_from_others (He.fAd K ("_is_derived_from_others", none)) fd_is_derived_from_others := fun_of FD_is_derived_from_others
  have b_is_derived_from_others := F_is_derived_from_others.binds (ps := ["masks", "index"]) fun _ _ _ _ _ _ us hl => match us, hl with | [_, _], _ => rfl
  obtain ⟨fd_fewest_messages, FD_fewest_messages⟩ := c.t.d.def_ 24 (d := dd_fewest_messages) rfl
  have F_fewest_messages : Fun K "_fewest_messages" "_fewest_messages" s_fewest_messages (He.fAd K ("_fewest_messages", none)) fd_fewest_messages := fun_of FD_fewest_messages
  have b_fewest_messages := F_fewest_messages.binds (ps := ["masks"]) fun _ _ _ _ _ _ us hl => match us, hl with | [_], _ => rfl
  obtain ⟨fd_law_pool, FD_law_pool⟩ := c.t.d.def_ 25 (d := dd_law_pool) rfl
  have F_law_pool : Fun K "_law_pool" "_law_pool" s_law_pool (He.fAd K ("_law_pool", none)) fd_law_pool := fun_of FD_law_pool
  have b_law_pool := F_law_pool.binds (ps := ["script"]) fun _ _ _ _ _ _ us hl => match us, hl with | [_], _ => rfl
  obtain ⟨fd_law_take, FD_law_take⟩ := c.t.d.def_ 26 (d := dd_law_take) rfl
  have F_law_take : Fun K "_law_take" "_law_take" s_law_take (He.fAd K ("_law_take", none)) fd_law_take := fun_of FD_law_take
  have b_law_take := F_law_take.binds (ps := ["pool", "many"]) fun _ _ _ _ _ _ us hl => match us, hl with | [_, _], _ => rfl
  obtain ⟨fd_law_is_integer, FD_law_is_integer⟩ := c.t.d.def_ 27 (d := dd_law_is_integer) rfl
  have F_law_is_integer : Fun K "_law_is_integer" "_law_is_integer" s_law_is_integer (He.fAd K ("_law_is_integer", none)) fd_law_is_integer := fun_of FD_law_is_integer
  have b_law_is_integer := F_law_is_integer.binds (ps := ["actual"]) fun _ _ _ _ _ _ us hl => match us, hl with | [_], _ => rfl
  obtain ⟨fd_law_same, FD_law_same⟩ := c.t.d.def_ 28 (d := dd_law_same) rfl
  have F_law_same : Fun K "_law_same" "_law_same" s_law_same (He.fAd K ("_law_same", none)) fd_law_same := fun_of FD_law_same
  have b_law_same := F_law_same.binds (ps := ["actual", "due"]) fun _ _ _ _ _ _ us hl => match us, hl with | [_, _], _ => rfl
  obtain ⟨fd_law_pick, FD_law_pick⟩ := c.t.d.def_ 29 (d := dd_law_pick) rfl
  have F_law_pick : Fun K "_law_pick" "_law_pick" s_law_pick (He.fAd K ("_law_pick", none)) fd_law_pick := fun_of FD_law_pick
  have b_law_pick := F_law_pick.binds (ps := ["pool", "rows"]) fun _ _ _ _ _ _ us hl => match us, hl with | [_, _], _ => rfl
  obtain ⟨fd_law_parity, FD_law_parity⟩ := c.t.d.def_ 30 (d := dd_law_parity) rfl
  have F_law_parity : Fun K "_law_parity" "_law_parity" s_law_parity (He.fAd K ("_law_parity", none)) fd_law_parity := fun_of FD_law_parity
  have b_law_parity := F_law_parity.binds (ps := ["pool", "variables"]) fun _ _ _ _ _ _ us hl => match us, hl with | [_, _], _ => rfl
  obtain ⟨fd_law_sum, FD_law_sum⟩ := c.t.d.def_ 31 (d := dd_law_sum) rfl
  have F_law_sum : Fun K "_law_sum" "_law_sum" s_law_sum (He.fAd K ("_law_sum", none)) fd_law_sum := fun_of FD_law_sum
  have b_law_sum := F_law_sum.binds (ps := ["texts"]) fun _ _ _ _ _ _ us hl => match us, hl with | [_], _ => rfl
  obtain ⟨fd_law_is_odd, FD_law_is_odd⟩ := c.t.d.def_ 32 (d := dd_law_is_odd) rfl
  have F_law_is_odd : Fun K "_law_is_odd" "_law_is_odd" s_law_is_odd (He.fAd K ("_law_is_odd", none)) fd_law_is_odd := fun_of FD_law_is_odd
  have b_law_is_odd := F_law_is_odd.binds (ps := ["text", "assignment"]) fun _ _ _ _ _ _ us hl => match us, hl with | [_, _], _ => rfl
  obtain ⟨fd_law_derived, FD_law_derived⟩ := c.t.d.def_ 33 (d := dd_law_derived) rfl
  have F_law_derived : Fun K "_law_derived" "_law_derived" s_law_derived (He.fAd K ("_law_derived", none)) fd_law_derived := fun_of FD_law_derived
  have b_law_derived := F_law_derived.binds (ps := ["messages"]) fun _ _ _ _ _ _ us hl => match us, hl with | [_], _ => rfl
  obtain ⟨fd_law_rank, FD_law_rank⟩ := c.t.d.def_ 34 (d := dd_law_rank) rfl
  have F_law_rank : Fun K "_law_rank" "_law_rank" s_law_rank (He.fAd K ("_law_rank", none)) fd_law_rank := fun_of FD_law_rank
  have b_law_rank := F_law_rank.binds (ps := ["messages"]) fun _ _ _ _ _ _ us hl => match us, hl with | [_], _ => rfl
  obtain ⟨fd_law_assignments, FD_law_assignments⟩ := c.t.d.def_ 35 (d := dd_law_assignments) rfl
  have F_law_assignments : Fun K "_law_assignments" "_law_assignments" s_law_assignments (He.fAd K ("_law_assignments", none)) fd_law_assignments := fun_of FD_law_assignments
  have b_law_assignments := F_law_assignments.binds (ps := ["variables"]) fun _ _ _ _ _ _ us hl => match us, hl with | [_], _ => rfl
  obtain ⟨fd_law_shaped, FD_law_shaped⟩ := c.t.d.def_ 36 (d := dd_law_shaped) rfl
  have F_law_shaped : Fun K "_law_shaped" "_law_shaped" s_law_shaped (He.fAd K ("_law_shaped", none)) fd_law_shaped := fun_of FD_law_shaped
  have b_law_shaped := F_law_shaped.binds (ps := ["pool", "rows"]) fun _ _ _ _ _ _ us hl => match us, hl with | [_, _], _ => rfl
  obtain ⟨fd_law_rows, FD_law_rows⟩ := c.t.d.def_ 37 (d := dd_law_rows) rfl
  have F_law_rows : Fun K "_law_rows" "_law_rows" s_law_rows (He.fAd K ("_law_rows", none)) fd_law_rows := fun_of FD_law_rows
  have b_law_rows := F_law_rows.binds (ps := ["pool", "variables", "most"]) fun _ _ _ _ _ _ us hl => match us, hl with | [_, _, _], _ => rfl
  obtain ⟨fd_law_is_told_apart, FD_law_is_told_apart⟩ := c.t.d.def_ 38 (d := dd_law_is_told_apart) rfl
  have F_law_is_told_apart : Fun K "_law_is_told_apart" "_law_is_told_apart" s_law_is_told_apart (He.fAd K ("_law_is_told_apart", none)) fd_law_is_told_apart := fun_of FD_law_is_told_apart
  have b_law_is_told_apart := F_law_is_told_apart.binds (ps := ["variables", "messages", "parity"]) fun _ _ _ _ _ _ us hl => match us, hl with | [_, _, _], _ => rfl
  obtain ⟨fd_law_ask, FD_law_ask⟩ := c.t.d.def_ 39 (d := dd_law_ask) rfl
  have F_law_ask : Fun K "_law_ask" "_law_ask" s_law_ask (He.fAd K ("_law_ask", none)) fd_law_ask := fun_of FD_law_ask
  have b_law_ask := F_law_ask.binds (ps := ["kind", "messages", "other"]) fun _ _ _ _ _ _ us hl => match us, hl with | [_, _, _], _ => rfl
  obtain ⟨fd_law_refused, FD_law_refused⟩ := c.t.d.def_ 40 (d := dd_law_refused) rfl
  have F_law_refused : Fun K "_law_refused" "_law_refused" s_law_refused (He.fAd K ("_law_refused", none)) fd_law_refused := fun_of FD_law_refused
  have b_law_refused := F_law_refused.binds (ps := ["kind", "messages", "other"]) fun _ _ _ _ _ _ us hl => match us, hl with | [_, _, _], _ => rfl
  obtain ⟨fd_law_lettered, FD_law_lettered⟩ := c.t.d.def_ 41 (d := dd_law_lettered) rfl
  have F_law_lettered : Fun K "_law_lettered" "_law_lettered" s_law_lettered (He.fAd K ("_law_lettered", none)) fd_law_lettered := fun_of FD_law_lettered
  have b_law_lettered := F_law_lettered.binds (ps := ["pool", "messages"]) fun _ _ _ _ _ _ us hl => match us, hl with | [_, _], _ => rfl
  obtain ⟨fd_law, FD_law⟩ := c.t.d.def_ 42 (d := dd_law) rfl
  have F_law : Fun K "law" "law" s_law (He.fAd K ("law", none)) fd_law := fun_of FD_law
  have b_law := F_law.binds (ps := ["script"]) fun _ _ _ _ _ _ us hl => match us, hl with | [_], _ => rfl
  have B_law := FunD.bindsA (ps := ["script"]) FD_law fun _ _ _ _ _ _ us hl => match us, hl with | [_], _ => rfl
  obtain ⟨t_PARITY_LETTERS, m_PARITY_LETTERS⟩ := He.str_ok X G (c.t.d.fact 44 (f := .str "PARITY_LETTERS" "abcdefgh") rfl)
  exact ⟨⟨He.fAd K ("first_letters", none), fd_first_letters, He.fAd K ("is_ascending", none), fd_is_ascending, He.fAd K ("is_parity", none), fd_is_parity, He.fAd K ("mask_of", none), fd_mask_of, He.fAd K ("text_of", none), fd_text_of, He.fAd K ("is_odd", none), fd_is_odd, He.fAd K ("remainder", none), fd_remainder, He.fAd K ("spanned", none), fd_spanned, (He.dflAt ("spanned", none) 0 K), He.fAd K ("basis_indices", none), fd_basis_indices, He.fAd K ("BadParity", some "__init__"), fd_BadParity_init, He.fAd K ("message_rank", none), fd_message_rank, He.fAd K ("is_derived", none), fd_is_derived, He.fAd K ("basis", none), fd_basis, He.fAd K ("combination", none), fd_combination, He.fAd K ("separating", none), fd_separating, He.fAd K ("redundant", none), fd_redundant, He.fAd K ("is_equivalent", none), fd_is_equivalent, He.fAd K ("odd_ones", none), fd_odd_ones, He.fAd K ("assignments", none), fd_assignments, He.fAd K ("parity_mask", none), fd_parity_mask, He.fAd K ("_message_masks", none), fd_message_masks, He.fAd K ("_assignment_masks", none), fd_assignment_masks, He.fAd K ("_gives", none), fd_gives, He.fAd K ("_is_derived_from_others", none), fd_is_derived_from_others, He.fAd K ("_fewest_messages", none), fd_fewest_messages, He.fAd K ("_law_pool", none), fd_law_pool, He.fAd K ("_law_take", none), fd_law_take, He.fAd K ("_law_is_integer", none), fd_law_is_integer, He.fAd K ("_law_same", none), fd_law_same, He.fAd K ("_law_pick", none), fd_law_pick, He.fAd K ("_law_parity", none), fd_law_parity, He.fAd K ("_law_sum", none), fd_law_sum, He.fAd K ("_law_is_odd", none), fd_law_is_odd, He.fAd K ("_law_derived", none), fd_law_derived, He.fAd K ("_law_rank", none), fd_law_rank, He.fAd K ("_law_assignments", none), fd_law_assignments, He.fAd K ("_law_shaped", none), fd_law_shaped, He.fAd K ("_law_rows", none), fd_law_rows, He.fAd K ("_law_is_told_apart", none), fd_law_is_told_apart, He.fAd K ("_law_ask", none), fd_law_ask, He.fAd K ("_law_refused", none), fd_law_refused, He.fAd K ("_law_lettered", none), fd_law_lettered, He.fAd K ("law", none), fd_law, He.ga K "KnowError", He.ga K "BadParity", t_PARITY_LETTERS⟩, ⟨F_first_letters,
    b_first_letters,
    He.glo_ok X G (c.t.d.fact 0 (f := .glo "first_letters") rfl),
    F_is_ascending,
    b_is_ascending,
    He.glo_ok X G (c.t.d.fact 1 (f := .glo "is_ascending") rfl),
    F_is_parity,
    b_is_parity,
    He.glo_ok X G (c.t.d.fact 2 (f := .glo "is_parity") rfl),
    F_mask_of,
    b_mask_of,
    He.glo_ok X G (c.t.d.fact 3 (f := .glo "mask_of") rfl),
    F_text_of,
    b_text_of,
    He.glo_ok X G (c.t.d.fact 4 (f := .glo "text_of") rfl),
    F_is_odd,
    b_is_odd,
    He.glo_ok X G (c.t.d.fact 5 (f := .glo "is_odd") rfl),
    F_remainder,
    b_remainder,
    He.glo_ok X G (c.t.d.fact 6 (f := .glo "remainder") rfl),
    FD_spanned,
    b_spanned,
    b1_spanned,
    tup0_ok (hx 0 rfl),
    (hx 1 rfl),
    He.glo_ok X G (c.t.d.fact 7 (f := .glo "spanned") rfl),
    F_basis_indices,
    b_basis_indices,
    He.glo_ok X G (c.t.d.fact 8 (f := .glo "basis_indices") rfl),
    F_BadParity_init,
    b_BadParity_init,
    He.eqO_ok (hx 2 rfl),
    of_decide_eq_true (hx 3 rfl),
    F_message_rank,
    b_message_rank,
    He.glo_ok X G (c.t.d.fact 9 (f := .glo "message_rank") rfl),
    F_is_derived,
    b_is_derived,
    He.glo_ok X G (c.t.d.fact 10 (f := .glo "is_derived") rfl),
    F_basis,
    b_basis,
    He.glo_ok X G (c.t.d.fact 11 (f := .glo "basis") rfl),
    F_combination,
    b_combination,
    He.glo_ok X G (c.t.d.fact 12 (f := .glo "combination") rfl),
    F_separating,
    b_separating,
    He.glo_ok X G (c.t.d.fact 13 (f := .glo "separating") rfl),
    F_redundant,
    b_redundant,
    He.glo_ok X G (c.t.d.fact 14 (f := .glo "redundant") rfl),
    F_is_equivalent,
    b_is_equivalent,
    He.glo_ok X G (c.t.d.fact 15 (f := .glo "is_equivalent") rfl),
    F_odd_ones,
    b_odd_ones,
    He.glo_ok X G (c.t.d.fact 16 (f := .glo "odd_ones") rfl),
    F_assignments,
    b_assignments,
    He.glo_ok X G (c.t.d.fact 17 (f := .glo "assignments") rfl),
    F_parity_mask,
    b_parity_mask,
    He.glo_ok X G (c.t.d.fact 18 (f := .glo "parity_mask") rfl),
    F_message_masks,
    b_message_masks,
    He.glo_ok X G (c.t.d.fact 19 (f := .glo "_message_masks") rfl),
    F_assignment_masks,
    b_assignment_masks,
    He.glo_ok X G (c.t.d.fact 20 (f := .glo "_assignment_masks") rfl),
    F_gives,
    b_gives,
    He.glo_ok X G (c.t.d.fact 21 (f := .glo "_gives") rfl),
    F_is_derived_from_others,
    b_is_derived_from_others,
    He.glo_ok X G (c.t.d.fact 22 (f := .glo "_is_derived_from_others") rfl),
    F_fewest_messages,
    b_fewest_messages,
    He.glo_ok X G (c.t.d.fact 23 (f := .glo "_fewest_messages") rfl),
    F_law_pool,
    b_law_pool,
    He.glo_ok X G (c.t.d.fact 24 (f := .glo "_law_pool") rfl),
    F_law_take,
    b_law_take,
    He.glo_ok X G (c.t.d.fact 25 (f := .glo "_law_take") rfl),
    F_law_is_integer,
    b_law_is_integer,
    He.glo_ok X G (c.t.d.fact 26 (f := .glo "_law_is_integer") rfl),
    F_law_same,
    b_law_same,
    He.glo_ok X G (c.t.d.fact 27 (f := .glo "_law_same") rfl),
    F_law_pick,
    b_law_pick,
    He.glo_ok X G (c.t.d.fact 28 (f := .glo "_law_pick") rfl),
    F_law_parity,
    b_law_parity,
    He.glo_ok X G (c.t.d.fact 29 (f := .glo "_law_parity") rfl),
    F_law_sum,
    b_law_sum,
    He.glo_ok X G (c.t.d.fact 30 (f := .glo "_law_sum") rfl),
    F_law_is_odd,
    b_law_is_odd,
    He.glo_ok X G (c.t.d.fact 31 (f := .glo "_law_is_odd") rfl),
    F_law_derived,
    b_law_derived,
    He.glo_ok X G (c.t.d.fact 32 (f := .glo "_law_derived") rfl),
    F_law_rank,
    b_law_rank,
    He.glo_ok X G (c.t.d.fact 33 (f := .glo "_law_rank") rfl),
    F_law_assignments,
    b_law_assignments,
    He.glo_ok X G (c.t.d.fact 34 (f := .glo "_law_assignments") rfl),
    F_law_shaped,
    b_law_shaped,
    He.glo_ok X G (c.t.d.fact 35 (f := .glo "_law_shaped") rfl),
    F_law_rows,
    b_law_rows,
    He.glo_ok X G (c.t.d.fact 36 (f := .glo "_law_rows") rfl),
    F_law_is_told_apart,
    b_law_is_told_apart,
    He.glo_ok X G (c.t.d.fact 37 (f := .glo "_law_is_told_apart") rfl),
    F_law_ask,
    b_law_ask,
    He.glo_ok X G (c.t.d.fact 38 (f := .glo "_law_ask") rfl),
    F_law_refused,
    b_law_refused,
    He.glo_ok X G (c.t.d.fact 39 (f := .glo "_law_refused") rfl),
    F_law_lettered,
    b_law_lettered,
    He.glo_ok X G (c.t.d.fact 40 (f := .glo "_law_lettered") rfl),
    F_law,
    b_law,
    fun s u => B_law s [u] rfl,
    He.glo_ok X G (c.t.d.fact 41 (f := .glo "law") rfl),
    He.glo_ok X G (c.t.d.fact 42 (f := .glo "KnowError") rfl),
    He.glo_ok X G (c.t.d.fact 43 (f := .glo "BadParity") rfl),
    (excB_ok (hx 4 rfl)),
    of_decide_eq_true (hx 5 rfl),
    of_decide_eq_true (hx 6 rfl),
    oexB_ok (hx 7 rfl) (excB_ok (hx 4 rfl)),
    He.eqO_ok (hx 8 rfl),
    m_PARITY_LETTERS,
    He.free_ok X G (c.t.d.fact 45 (f := .free "len") rfl),
    He.free_ok X G (c.t.d.fact 46 (f := .free "int") rfl),
    He.free_ok X G (c.t.d.fact 47 (f := .free "max") rfl),
    He.free_ok X G (c.t.d.fact 48 (f := .free "min") rfl),
    He.free_ok X G (c.t.d.fact 49 (f := .free "sum") rfl),
    He.free_ok X G (c.t.d.fact 50 (f := .free "sorted") rfl),
    He.free_ok X G (c.t.d.fact 51 (f := .free "range") rfl),
    He.free_ok X G (c.t.d.fact 52 (f := .free "tuple") rfl),
    He.free_ok X G (c.t.d.fact 53 (f := .free "list") rfl),
    He.free_ok X G (c.t.d.fact 54 (f := .free "isinstance") rfl),
    He.free_ok X G (c.t.d.fact 55 (f := .free "enumerate") rfl),
    He.free_ok X G (c.t.d.fact 56 (f := .free "all") rfl),
    He.free_ok X G (c.t.d.fact 57 (f := .free "any") rfl),
    He.free_ok X G (c.t.d.fact 58 (f := .free "bool") rfl),
    He.free_ok X G (c.t.d.fact 59 (f := .free "str") rfl),
    He.free_ok X G (c.t.d.fact 60 (f := .free "zip") rfl),
    He.free_ok X G (c.t.d.fact 61 (f := .free "set") rfl)⟩, rfl⟩
theorem law_atX {l : PySem.W.OpenLaw} {w : World} {K : PySem.W.Frag} {h : Heap} {mg : Str → Option Value} {fa : Addr} (X : K.In h) (G : h.Ns mainGlobals mg) (hmg : mg "law" = some (.ref fa)) (c : He.SaysX faL fnL [] tfL exB w h K) :
    LamX.LawAtS l w K CX0 9 63 "script" mg fa h := by
  obtain ⟨a, T, ea⟩ := txt_of X G c
  have e : He.ga K "law" = fa := by
    have z := He.glo_ok X G (c.t.d.fact 41 (f := .glo "law") rfl)
    rw [hmg] at z
    cases z
    rfl
  refine law_at X T (ea.trans e) 
end AK
open PySem PySem.W PySem.Calls PyProof.Rows
set_option maxRecDepth 100000 in
set_option maxHeartbeats 0 in
theorem PySem.Challenge.cw_allknow_k04_what_can_be_derived_holds : PySem.Challenge.rw_allknow_k04_what_can_be_derived.Holds := by
  w_on; o_law
  refine HandSHeadRun.head_any (r := OpenLaw.row PySem.Challenge.rw_allknow_k04_what_can_be_derived) (q := view (OpenLaw.row PySem.Challenge.rw_allknow_k04_what_can_be_derived).prog [49]) (H := AK.hkX) (ob := AK.obX) (M := 6000) (loose := AK.looseL) (d := HandSHeadRun.topDef (OpenLaw.row PySem.Challenge.rw_allknow_k04_what_can_be_derived).prog 49) (kwd := []) AK.obX_eq
    (by kernel_rfl) (fun s => by kernel_rfl) AK.runX (by kernel_rfl) (by kernel_rfl) (by kernel_rfl) (by rfl) (by first | assumption | decide +kernel) (by decide +kernel) ⟨rfl, rfl, rfl, rfl, rfl, by decide +kernel⟩ ?hw ?hc
  case hw => w_witness2
  case hc =>
    refine LamX.walk_ofTsE (l := PySem.Challenge.rw_allknow_k04_what_can_be_derived) (n := 63) (k := 9) (x := "script") (CX := fun _ => L2.CX0) rfl (by decide) (by kernel_rfl) ⟨rfl, by decide, by decide⟩ ?F (fun _ _ _ _ _ z => z)
    intro w mg fa h Y G hmg0
    obtain ⟨K, KX, c⟩ := Y
    have hmg : mg ("law" : PySem.Str) = some (.ref fa) := by
      have e : (HandSHeadRun.topDef (OpenLaw.row PySem.Challenge.rw_allknow_k04_what_can_be_derived).prog 49).name = ("law" : PySem.Str) := by kernel_rfl
      rw [← e]
      exact hmg0
    exact ⟨K, KX, AK.law_atX KX G hmg c⟩
