import PyProof.Rows.All
import Wide.All
import OpenK.AllK
import Wide.FinOn
import HandS.ForMost
import HandS.ForExc
import HandS.IsInst
import HandS.ExcIs
import HandS.ExcField
import HandS.ExcInit
import HandS.FStr
import HandS.StrMore
import HandS.Evl
import HandS.EndTab
import HandS.AnyAll
import HandS.JoinGen
import HandS.GenList
import HandS.RaiseMore
import PyProof.TupleOfGen
import KE.GoesMore
import PyProof.EnumMake
import HandS.CallSlots
import HandS.WordsExc
import KE.KExcIs
import HandS.Head0
import HandS.Head1
import HandS.Head2
import HandS.HeadEnd
import HandS.HeadHook1
import HandS.HeadHook2
import HandS.HeadHook3
import HandS.HeadHook4
import HandS.HeadWalk
import PyProof.Rows.SortShellAny
import HandS.Defaults
import HandS.TupLe
import HandS.Text
import PySem.Challenge.RW_allknow_k07_whole_exchange
set_option Elab.async false
set_option linter.all false
set_option maxRecDepth 100000
namespace AK
open PySem PySem.Spec PyProof.Rows L2
/-! ### readings that simp can go through: a list, a tuple by what H itself holds -/
section
variable {X : Cx}
theorem OpR.imp {f : Value → Value → Sem Value} {r r' : R2} (h : OpR X f r) (i : ∀ x y H Q, r' x y H Q → r x y H Q) : OpR X f r' := fun pins s σ H x y v u Q I rx ry q => h pins s σ H x y v u Q I rx ry (i _ _ _ _ q)
theorem IxR.imp {r r' : R2} (h : IxR X r) (i : ∀ x y H Q, r' x y H Q → r x y H Q) : IxR X r' := fun ve se pins s σ H x y v u Q I rx ry q => h ve se pins s σ H x y v u Q I rx ry (i _ _ _ _ q)
theorem CallR.imp {f : Value} {r r' : List V → Hp → VK → Prop} (h : CallR X f r) (i : ∀ xs H Q, r' xs H Q → r xs H Q) : CallR X f r' := fun pins s σ H xs us Q I r q => h pins s σ H xs us Q I r (i _ _ _ q)
def hIx : R2 := fun x y H Q => ∃ p xs i v, x = .ref p ∧ y = .int i ∧ H p = some (.lst xs) ∧ atI xs i = some v ∧ Q v H
def hIxT : R2 := fun x y H Q => ∃ p xs i v, x = .ref p ∧ y = .int i ∧ H p = some (.tup xs) ∧ atI xs i = some v ∧ Q v H
theorem ixH : IxR X hIx := IxR.imp ix_list fun x y H Q ⟨p, xs, i, v, h1, h2, h3, h4, h5⟩ => ⟨p, xs, i, v, h1, h2, SqL.of h3, h4, h5⟩
theorem ixHT : IxR X hIxT := IxR.imp ix_tup fun x y H Q ⟨p, xs, i, v, h1, h2, h3, h4, h5⟩ => ⟨p, xs, i, v, h1, h2, SqT.of h3, h4, h5⟩
def hSet : V → V → V → Hp → (Hp → Prop) → Prop := fun o i v H Q => ∃ p xs k, o = .ref p ∧ i = .int k ∧ H p = some (.lst xs) ∧ 0 ≤ k ∧ k.toNat < xs.length ∧ Q (upd H p (.lst (xs.set k.toNat v)))
theorem setH : PSet X hSet := by
  intro pins s σ H o i v u1 u2 u3 Q I r1 r2 r3 ⟨p, xs, k, h1, h2, h3, h4, h5, h6⟩
  exact set_list pins s σ H o i v u1 u2 u3 Q I r1 r2 r3 ⟨p, xs, k, k.toNat, h1, h2, h3, by unfold ixN; rw [if_pos h4, if_pos (by omega)], h6⟩
def hInt : List V → Hp → VK → Prop := fun xs H Q => ∃ i, xs = [.int i] ∧ Q (.int i) H
theorem callInt : CallR X (.type "int") hInt := CallR.imp call_int1 fun _ _ _ h => .inl h
def hIntB : List V → Hp → VK → Prop := fun xs H Q => ∃ k, xs = [.bl k] ∧ Q (.int (if k then 1 else 0)) H
theorem callIntB : CallR X (.type "int") hIntB := CallR.imp call_int1 fun _ _ _ h => .inr h
def hLen : List V → Hp → VK → Prop := fun xs H Q => ∃ p ys, xs = [.ref p] ∧ H p = some (.lst ys) ∧ Q (.int ys.length) H
def hLenT : List V → Hp → VK → Prop := fun xs H Q => ∃ p ys, xs = [.ref p] ∧ H p = some (.tup ys) ∧ Q (.int ys.length) H
theorem callLen : CallR X (.builtin "len") hLen := CallR.imp call_len_seq fun _ _ _ ⟨p, ys, h1, h2, h3⟩ => ⟨p, ys, h1, .inl (SqL.of h2), h3⟩
theorem callLenT : CallR X (.builtin "len") hLenT := CallR.imp call_len_seq fun _ _ _ ⟨p, ys, h1, h2, h3⟩ => ⟨p, ys, h1, .inr (SqT.of h2), h3⟩
theorem powH : OpR X (binaryOp .Pow) (rI (fun i j => 0 ≤ j ∧ j ≤ 1000000 ∧ -18446744073709551616 < i ∧ i < 18446744073709551616) fun i j => .int (i ^ j.toNat)) := OpR.imp op_pow fun x y H Q ⟨i, j, h1, h2, h3, h4⟩ => ⟨i, j, h1, h2, ⟨h3.1, h3.2.1, by have := h3.2.2; show i.natAbs < 18446744073709551616; omega⟩, h4⟩
end
/-! ### small facts -/
theorem atI_0 {α : Type} {a : α} {l : List α} : atI (a :: l) 0 = some a := atI_nat (j := 0) rfl
theorem atI_1 {α : Type} {a b : α} {l : List α} : atI (a :: b :: l) 1 = some b := atI_nat (j := 1) rfl
theorem atI_2 {α : Type} {a b c : α} {l : List α} : atI (a :: b :: c :: l) 2 = some c := atI_nat (j := 2) rfl
theorem atI_3 {α : Type} {a b c d : α} {l : List α} : atI (a :: b :: c :: d :: l) 3 = some d := atI_nat (j := 3) rfl
theorem set_1 {α : Type} {a b v : α} {l : List α} : (a :: b :: l).set 1 v = a :: v :: l := rfl
theorem set_2 {α : Type} {a b c v : α} {l : List α} : (a :: b :: c :: l).set 2 v = a :: b :: v :: l := rfl
theorem set_3 {α : Type} {a b c d v : α} {l : List α} : (a :: b :: c :: d :: l).set 3 v = a :: b :: c :: v :: l := rfl
theorem take_s {α : Type} {l : List α} {i : Nat} {x : α} (h : l[i]? = some x) : l.take (i + 1) = l.take i ++ [x] := by
  rw [List.take_add_one, h]
  rfl
theorem map_at {α β : Type} {f : α → β} {l : List α} {i : Nat} {y : β} (h : (l.map f)[i]? = some y) : ∃ x, l[i]? = some x ∧ y = f x := by
  rw [List.getElem?_map] at h
  cases e : l[i]? with
  | none => rw [e] at h; cases h
  | some x => rw [e] at h; exact ⟨x, rfl, (Option.some.inj h).symm⟩
theorem same_new {H : Hp} {p : Addr} {o : HO} (h : H p = none) : Same H (upd H p o) := fun b x e => by
  rw [upd_ne (ne_of_none e h)]
  exact e
theorem same_out {G H : Hp} {p : Addr} {o : HO} (h : Same G H) (n : G p = none) : Same G (upd H p o) := fun b x e => by
  rw [upd_ne (ne_of_none e n)]
  exact h b x e
/-- all but what stands at p is as it was -/
def But (p : Addr) (H H' : Hp) : Prop := ∀ b, b ≠ p → H' b = H b
theorem But.refl (p : Addr) (H : Hp) : But p H H := fun _ _ => rfl
theorem But.trans {p : Addr} {H H1 H2 : Hp} (a : But p H H1) (b : But p H1 H2) : But p H H2 := fun c h => (b c h).trans (a c h)
theorem But.upd {p : Addr} {H : Hp} {o : HO} : But p H (upd H p o) := fun _ h => upd_ne h
theorem But.same {p : Addr} {G H H' : Hp} (b : But p H H') (h : Same G H) (n : G p = none) : Same G H' := fun c x e => by
  rw [b c (ne_of_none e n)]
  exact h c x e
end AK
set_option Elab.async false
set_option linter.all false
set_option maxRecDepth 100000
set_option maxHeartbeats 4000000
namespace AK
open PySem PySem.Spec PyProof.Rows L2 GenW
/-! ### tuple(tuple(x) for x in rows): the generator handed to tuple, turn by turn -/
/-- what is fixed while the generator lives: base: what never changes; I its iterator, C its frame, S the list that is filled, a itself -/
structure TgC where
  P : Program
  w : World
  fs : List Addr
  base : Heap
  H0 : Hp
  sc : Shared
  I : Addr
  C : Addr
  S : Addr
  a : Addr
  g : Nat
  hI : base.objs.size ≤ I
  hC : sc.heap.objs.size ≤ C
  hS : sc.heap.objs.size ≤ S
  ha : sc.heap.objs.size ≤ a
  hb : base.objs.size ≤ sc.heap.objs.size
  hIs : I < sc.heap.objs.size
  hCS : C ≠ S
  hCa : C ≠ a
  hSa : S ≠ a
  hst : cStatics < base.objs.size
/-- .. as it stands behind i turns: bs are the tuples handed out -/
structure TgM (T : TgC) (bs : List Addr) (H : Hp) (s : Shared) : Prop where
  os : s.os = T.sc.os
  bare : AllBare s.gens
  lim : s.heap.NoLimit
  gen : s.heap.IsGen T.a T.g
  un : Un T.fs [T.I] T.H0 H T.sc.heap s.heap
  ok : HOk T.P T.w H s.heap
  fr : ∃ m, s.heap.Ns T.C m
  ls : ∃ (acc : Array Value) (c : Nat), s.heap.get? T.S = some (lstObj acc c) ∧ Vals (bs.map V.ref) acc.toList
  nI : H T.I = none
  nC : H T.C = none
  nS : H T.S = none
  na : H T.a = none
  le : Same T.H0 H
  bk : ∀ b o, T.base.get? b = some o → s.heap.get? b = some o
theorem hok_of {P : Program} {w : World} {H : Hp} {h h' : Heap} (x : HOk P w H h) (k : ∀ b u, H b ≠ none → h.get? b = some u → h'.get? b = some u) : HOk P w H h' := by
  intro b o e
  refine (x b o e).stay (fun c u hc q => k c u ?_ q) (fun _ q => q) (fun _ _ q => q)
  rcases hc with z | z
  · rw [z, e]; exact fun z => nomatch z
  · rw [z]; exact fun z => nomatch z
theorem lim_of {h h' : Heap} (l : h.NoLimit) (k : ∀ o, h.get? cStatics = some o → h'.get? cStatics = some o) : h'.NoLimit := by
  obtain ⟨mc, n1, n2⟩ := l
  exact ⟨mc, n1.at' k, n2⟩
/-- all but the iterator and the frame is kept (new things may have been laid) -/
theorem TgM.move {T : TgC} {bs : List Addr} {H : Hp} {s : Shared} (M : TgM T bs H s) {h' : Heap} {tk : Nat} (k : ∀ b o, b ≠ T.I → b ≠ T.C → s.heap.get? b = some o → h'.get? b = some o) (f : ∃ m, h'.Ns T.C m) : TgM T bs H { s with heap := h', toks := tk } := by
  have neO : ∀ {b o}, T.sc.heap.get? b = some o → b ≠ T.C := fun {b o} e => Nat.ne_of_lt (Nat.lt_of_lt_of_le (Heap.lt_size e) T.hC)
  have hsI : T.S ≠ T.I := fun z => by have h1 := T.hS; have h2 := T.hIs; rw [z] at h1; exact absurd (Nat.lt_of_lt_of_le h2 h1) (Nat.lt_irrefl _)
  have haI : T.a ≠ T.I := fun z => by have h1 := T.ha; have h2 := T.hIs; rw [z] at h1; exact absurd (Nat.lt_of_lt_of_le h2 h1) (Nat.lt_irrefl _)
  have big : ∀ {b o}, T.base.get? b = some o → b ≠ T.I ∧ b ≠ T.C := fun {b o} e => by
    have h1 := Heap.lt_size e
    exact ⟨Nat.ne_of_lt (Nat.lt_of_lt_of_le h1 T.hI), Nat.ne_of_lt (Nat.lt_of_lt_of_le h1 (Nat.le_trans T.hb T.hC))⟩
  obtain ⟨acc, c, e1, e2⟩ := M.ls
  obtain ⟨og, g1, g2, g3, g4⟩ := M.gen
  have u := M.un
  refine ⟨M.os, M.bare, ?_, ⟨og, g1, g2, k _ _ haI (Ne.symm T.hCa) g3, g4⟩, ⟨?_, ?_, u.free, ?_, u.tups, u.frzs, u.tbls⟩, ?_, f, ⟨acc, c, k _ _ hsI (Ne.symm T.hCS) e1, e2⟩, M.nI, M.nC, M.nS, M.na, M.le, fun b o e => k b o (big e).1 (big e).2 (M.bk b o e)⟩
  · refine lim_of M.lim fun o e => k _ o ?_ ?_ e
    · exact Nat.ne_of_lt (Nat.lt_of_lt_of_le T.hst T.hI)
    · exact Nat.ne_of_lt (Nat.lt_of_lt_of_le T.hst (Nat.le_trans T.hb T.hC))
  · intro b o q n x1 x2
    exact k b o (fun z => x2 (by rw [z]; exact List.mem_singleton.mpr rfl)) (neO q) (u.keep b o q n x1 x2)
  · intro b o q n x1 x2
    obtain ⟨sl, e⟩ := u.slot b o q n x1 x2
    exact ⟨sl, k b _ (fun z => x2 (by rw [z]; exact List.mem_singleton.mpr rfl)) (neO q) e⟩
  · intro b o q x2
    obtain ⟨o', e⟩ := u.there b o q x2
    exact ⟨o', k b _ (fun z => x2 (by rw [z]; exact List.mem_singleton.mpr rfl)) (neO q) e⟩
  · refine hok_of M.ok fun b v hb e => k b v (fun z => hb (by rw [z]; exact M.nI)) (fun z => hb (by rw [z]; exact M.nC)) e
/-- a new tuple is laid -/
theorem TgM.laid {T : TgC} {bs : List Addr} {H : Hp} {s : Shared} (M : TgM T bs H s) {row : List V} {its : List Value} (r : Vals row its) (hz : row.length ≤ sizeLine) :
    H s.heap.objs.size = none ∧ TgM T bs (upd H s.heap.objs.size (.tup row)) { s with heap := s.heap.push { cls := .type "tuple", data := .seq its.toArray } } := by
  have hn : H s.heap.objs.size = none := M.ok.fresh (Nat.le_refl _)
  have kp : ∀ b o, s.heap.get? b = some o → (s.heap.push { cls := .type "tuple", data := .seq its.toArray }).get? b = some o := fun b o e => Heap.get?_push_of_some _ e
  have M1 := M.move (tk := s.toks) (h' := s.heap.push { cls := .type "tuple", data := .seq its.toArray }) (fun b o _ _ e => kp b o e) (by obtain ⟨m, hm⟩ := M.fr; exact ⟨m, hm.keeps kp⟩)
  obtain ⟨acc, c, e1, e2⟩ := M.ls
  obtain ⟨m, om, es, ep, em, _⟩ := M.fr
  obtain ⟨og, _, _, g3, _⟩ := M.gen
  have sc_lt : T.sc.heap.objs.size ≤ s.heap.objs.size := Nat.le_of_lt (Nat.lt_of_le_of_lt T.hS (Heap.lt_size e1))
  have ne : ∀ {b o}, s.heap.get? b = some o → b ≠ s.heap.objs.size := fun {b o} e => Nat.ne_of_lt (Heap.lt_size e)
  have u := M1.un
  refine ⟨hn, M1.os, M1.bare, M1.lim, M1.gen, ⟨u.keep, u.slot, ?_, u.there, ?_, ?_, ?_⟩, M.ok.laid kp (Nat.le_refl _) ⟨hz, its, r, IsTup.new _ _⟩, M1.fr, M1.ls, ?_, ?_, ?_, ?_, ?_, M1.bk⟩
  · intro b o q n x2
    rw [upd_ne (Nat.ne_of_lt (Nat.lt_of_lt_of_le (Heap.lt_size q) sc_lt))]
    exact u.free b o q n x2
  · intro b xs q
    have := u.tups b xs q
    rw [upd_ne (ne_of_none this hn)]; exact this
  · intro b o xs q
    have := u.frzs b o xs q
    rw [upd_ne (ne_of_none this hn)]; exact this
  · intro b ps q
    obtain ⟨more, z⟩ := u.tbls b ps q
    exact ⟨more, by rw [upd_ne (ne_of_none z hn)]; exact z⟩
  · rw [upd_ne (Nat.ne_of_lt (Nat.lt_of_lt_of_le T.hIs sc_lt))]; exact M.nI
  · rw [upd_ne (ne em)]; exact M.nC
  · rw [upd_ne (ne e1)]; exact M.nS
  · rw [upd_ne (ne g3)]; exact M.na
  · intro b o e
    rw [upd_ne (ne_of_none (M.le b o e) hn)]
    exact M.le b o e
/-- the list took what was handed out -/
theorem TgM.woken {T : TgC} {bs : List Addr} {H : Hp} {s s' : Shared} {q : Addr} (M : TgM T bs H s) (z : Slept T.S (.ref q) s s') : TgM T (bs ++ [q]) H s' := by
  obtain ⟨z1, z2, z3, z4⟩ := z
  obtain ⟨acc, c, e1, e2⟩ := M.ls
  obtain ⟨c', e3⟩ := z4 acc c e1
  obtain ⟨og, g1, g2, g3, g4⟩ := M.gen
  have u := M.un
  have neS : ∀ {b o}, T.sc.heap.get? b = some o → b ≠ T.S := fun {b o} e => Nat.ne_of_lt (Nat.lt_of_lt_of_le (Heap.lt_size e) T.hS)
  refine ⟨z1.trans M.os, z2, ?_, ⟨og, g1, g2, z3 _ _ (Ne.symm T.hSa) g3, g4⟩, ⟨?_, ?_, u.free, ?_, u.tups, u.frzs, u.tbls⟩, ?_, ?_, ⟨acc.push (.ref q), c', e3, ?_⟩, M.nI, M.nC, M.nS, M.na, M.le, ?_⟩
  · exact lim_of M.lim fun o e => z3 _ o (Nat.ne_of_lt (Nat.lt_of_lt_of_le T.hst (Nat.le_trans T.hb T.hS))) e
  · exact fun b o q n x1 x2 => z3 b o (neS q) (u.keep b o q n x1 x2)
  · intro b o q n x1 x2
    obtain ⟨sl, e⟩ := u.slot b o q n x1 x2
    exact ⟨sl, z3 b _ (neS q) e⟩
  · intro b o q x2
    obtain ⟨o', e⟩ := u.there b o q x2
    exact ⟨o', z3 b _ (neS q) e⟩
  · exact hok_of M.ok fun b v hb e => z3 b v (fun y => hb (by rw [y]; exact M.nS)) e
  · obtain ⟨m, hm⟩ := M.fr
    exact ⟨m, hm.at' fun o e => z3 _ o T.hCS e⟩
  · rw [Array.toList_push, List.map_append]
    exact e2.append (.cons rfl .nil)
  · intro b o e
    exact z3 b o (Nat.ne_of_lt (Nat.lt_of_lt_of_le (Heap.lt_size e) (Nat.le_trans T.hb T.hS))) (M.bk b o e)
end AK
set_option Elab.async false
set_option linter.all false
set_option maxRecDepth 100000
set_option maxHeartbeats 4000000
namespace AK
open PySem PySem.Spec PyProof.Rows L2 GenW
/-- what the element asks of the base: where the builtins stand -/
structure TgB (T : TgC) (mg : Str → Option Value) : Prop where
  glob : T.base.Ns mainGlobals mg
  blt : ∃ mb, T.base.Ns builtinsNs mb ∧ ∀ x : Str, x ≠ "__name__" → mb x = bootBuiltins x
  tup : mg "tuple" = none
theorem tg_elt {T : TgC} {mg : Str → Option Value} (B : TgB T mg) {bs : List Addr} {H : Hp} {s : Shared} (M : TgM T bs H s) {A : Around} {E : Value → Shared → Prop} {cenv : Env} {x : Str} {p1 p2 p3 : Pos} {m : Str → Option Value} {r : Addr} {row : List V}
    (hk : cenv.scope.kind = .function) (hgl : cenv.globals = mainGlobals) (hbl : cenv.builtins = builtinsNs) (hL : cenv.locals = T.C) (hx : cenv.kindOf x = some .local) (ht : cenv.kindOf "tuple" = some .globalImplicit) (hd : (x == ("__debug__" : Str)) = false)
    (hn : s.heap.Ns cenv.locals m) (hm : m x = some (.ref r)) (hr : H r = some (.lst row) ∨ H r = some (.tup row)) :
    wpAny (model T.P T.w) A (eval (.Call (.Name "tuple" p1) [.Name x p2] [] p3) cenv) (fun y s' => ∃ q H', y = .ref q ∧ TgM T bs H' s' ∧ H' q = some (.tup row) ∧ Same H H' ∧ (∀ b o, s.heap.get? b = some o → s'.heap.get? b = some o) ∧ ∃ h' tk, s' = { s with heap := h', toks := tk }) E s := by
  obtain ⟨mb, b1, b2⟩ := B.blt
  refine wpAny_Call_Name_kw ?_
  refine Calls.Name_function_global hk ht (Calls.loadGlobal_builtin (v := .type "tuple") (by rw [hgl]; exact B.glob.keeps M.bk) B.tup (by rw [hbl]; exact b1.keeps M.bk) ((b2 "tuple" (by decide)).trans (by decide +kernel)) ?_) (by decide)
  refine PyProof.Rows.callWith_type1 ?_ (by rfl) (by rfl)
  show wpAny _ _ (spliced ((false, eval (.Name x p2) cenv) :: backTo p3 (starEach [] cenv))) _ _ s
  refine Calls.spliced_cons (wpAny_Name (wpAny_loadName_local hk hx hn hm ?_) hd)
  refine Calls.spliced_nil ?_
  rcases hr with hr | hr
  · obtain ⟨hz, its, n, rv, e⟩ := M.ok r _ hr
    have il : s.heap.IsList r its.toArray := ⟨_, e, rfl, n, rfl⟩
    refine call_tuple_list il (fun h' kp => ?_) (by rw [List.size_toArray, ← rv.length]; exact hz)
    have M1 : TgM T bs H { s with heap := h' } := M.move (tk := s.toks) (fun b o _ _ q => kp b o q) (by obtain ⟨m0, hm0⟩ := M.fr; exact ⟨m0, hm0.keeps kp⟩)
    obtain ⟨nn, M2⟩ := M1.laid rv hz
    exact ⟨_, _, rfl, M2, upd_same, same_new nn, fun b o q => Heap.get?_push_of_some _ (kp b o q), _, s.toks, rfl⟩
  · obtain ⟨hz, its, rv, tp⟩ := M.ok r _ hr
    exact call_tuple_same tp ⟨r, H, rfl, M, hr, fun _ _ q => q, fun _ _ q => q, s.heap, s.toks, rfl⟩
/-- behind the last turn -/
def TgQ (T : TgC) (rows : List (List V)) (ys : List V) (H' : Hp) : Prop := ∃ bs : List Addr, ys = bs.map V.ref ∧ bs.length = rows.length ∧ (∀ (j : Nat) (b : Addr) (row : List V), bs[j]? = some b → rows[j]? = some row → H' b = some (.tup row)) ∧ Same T.H0 H' ∧ H' T.a = none
def tgR (T : TgC) (rows : List (List V)) : GenEnd := fun n s₀ r s1 => r = .ok .next ∧ ∃ bs H', TgM T bs H' s1 ∧ TgQ T rows (bs.map V.ref) H'
def tgY (T : TgC) : Protocol := fun n s₀ v s1 kap => (∃ bs H', n + 1 + bs.length = sizeLine ∧ TgM T bs H' s1) ∧ ∀ s', Slept T.S v s1 s' → kap (.send .none) s'
theorem tg_loop {T : TgC} {mg : Str → Option Value} (B : TgB T mg) {A : Around} {cenv : Env} {x : Str} {px p1 p2 p3 pos : Pos} {iter : Expr} {scope : Scope} {l : Addr} {as : List Addr} {rows : List (List V)} {St₀ : Nat → Heap → Prop} {its : Array Value}
    (hh : A.handled = none) (W : ∀ A' : Around, A'.handled = none → Walks T.P T.w A' T.I [T.I, l] [T.I] its.size (fun i v => its[i]? = some v) St₀)
    (hsz : its.size = rows.length) (hle : rows.length ≤ sizeLine) (hat : ∀ (i : Nat) (v : Value), its[i]? = some v → ∃ (r : Addr) (row : List V), v = .ref r ∧ rows[i]? = some row ∧ (T.H0 r = some (.lst row) ∨ T.H0 r = some (.tup row))) (hl : ∃ o, T.H0 l = some o)
    (hk : cenv.scope.kind = .function) (hgl : cenv.globals = mainGlobals) (hbl : cenv.builtins = builtinsNs) (hL : cenv.locals = T.C) (hx : cenv.kindOf x = some .local) (ht : cenv.kindOf "tuple" = some .globalImplicit) (hd : (x == ("__debug__" : Str)) = false) (hco : cenv.scope.isCoroutine = false) :
    ∀ (k i : Nat) (s₀ s : Shared) (bs : List Addr) (H' : Hp), its.size - i = k → i ≤ its.size → bs.length = i → TgM T bs H' s → St₀ i s.heap → (∀ (j : Nat) (b : Addr) (row : List V), bs[j]? = some b → rows[j]? = some row → H' b = some (.tup row)) →
      Seg (model T.P T.w) A (tgR T rows) (tgY T) (sizeLine - i) s₀ (.compLoop (.GeneratorExp (.Call (.Name "tuple" p1) [.Name x p2] [] p3) [⟨.Name x px, iter, [], 0⟩] scope pos) 0 (.ref T.I) .none cenv)
        ((model T.P T.w).den (.compLoop (.GeneratorExp (.Call (.Name "tuple" p1) [.Name x p2] [] p3) [⟨.Name x px, iter, [], 0⟩] scope pos) 0 (.ref T.I) .none cenv)) [] s := by
  have hh' : (A.over (.compLoop (.GeneratorExp (.Call (.Name "tuple" p1) [.Name x p2] [] p3) [⟨.Name x px, iter, [], 0⟩] scope pos) 0 (.ref T.I) .none cenv) []).handled = none := hh
  have hp : (cenv.scope.kind == .class || (cenv.scope.kind == .module && cenv.locals != cenv.globals)) = false := by rw [hk]; rfl
  have hCI : T.C ≠ T.I := fun z => by have h1 := T.hC; have h2 := T.hIs; rw [z] at h1; exact absurd (Nat.lt_of_lt_of_le h2 h1) (Nat.lt_irrefl _)
  have hlC : ∀ {bs H s}, TgM T bs H s → l ≠ T.C := fun {bs H s} M z => by
    obtain ⟨o, e⟩ := hl
    have := M.le l o e
    rw [z, M.nC] at this
    cases this
  have inI : ∀ {b}, b ≠ T.I → b ∉ [T.I] := fun {b} h z => h (List.mem_singleton.mp z)
  intro k
  induction k with
  | zero =>
    intro i s₀ s bs H' hki hi hlen M hst hrow
    obtain rfl : i = its.size := by omega
    show Seg _ A _ _ _ s₀ _ ((compTurn (.GeneratorExp (.Call (.Name "tuple" p1) [.Name x p2] [] p3) [⟨.Name x px, iter, [], 0⟩] scope pos) 0 (.ref T.I) .none cenv).onRaise (leaving cenv)) [] s
    rw [compTurn_gen, Sem.onRaise_eq_wrap]
    refine seg_bind_wrap (wpAny_standAt (seg_bind_wrap ((W _ hh').done s _ _ hst fun h1 tk1 kp => ?_)))
    have M1 := M.move (tk := tk1) (fun b o e1 _ e => kp b o (inI e1) e) (by obtain ⟨m, hm⟩ := M.fr; exact ⟨m, hm.at' fun o e => kp _ o (inI hCI) e⟩)
    exact seg_end (.ok .next) ⟨rfl, bs, H', M1, bs, rfl, hlen.trans hsz, hrow, M.le, M.na⟩
  | succ k ih =>
    intro i s₀ s bs H' hki hi hlen M hst hrow
    have hlt : i < its.size := by omega
    show Seg _ A _ _ _ s₀ _ ((compTurn (.GeneratorExp (.Call (.Name "tuple" p1) [.Name x p2] [] p3) [⟨.Name x px, iter, [], 0⟩] scope pos) 0 (.ref T.I) .none cenv).onRaise (leaving cenv)) [] s
    rw [compTurn_gen, Sem.onRaise_eq_wrap]
    refine seg_bind_wrap (wpAny_standAt (seg_bind_wrap ((W _ hh').item i s _ _ hlt hst fun v h1 tk1 hv st1 kp => ?_)))
    obtain ⟨r, row, rfl, hrw, hH0⟩ := hat i v hv
    obtain ⟨m, hm⟩ := M.fr
    have n1 : h1.Ns T.C m := hm.at' fun o e => kp _ o (inI hCI) e
    have M1 := M.move (tk := tk1) (fun b o e1 _ e => kp b o (inI e1) e) ⟨m, n1⟩
    refine seg_bind_wrap (wpAny_of_eq (rfl : letOwnedTupleGo (.Name x px) (.ref T.I) (.ref r) = pure ()) ?_)
    refine seg_bind_wrap (wpAny_assign_Name (wpAny_storeName_local hx (by rw [hL]; exact n1) (fun h2 n2 sb => ?_) hp))
    rw [hL] at n2 sb
    have M2 := M1.move (tk := tk1 + 1) (h' := h2) (fun b o _ e2 e => sb.extBut b o e2 e) ⟨_, n2⟩
    have st2 : St₀ (i + 1) h2 := (W A hh).frame _ _ _ st1 fun b hb o e => sb.extBut b o (by
      rcases List.mem_cons.mp hb with z | z
      · rw [z]; exact Ne.symm hCI
      · rw [List.mem_singleton.mp z]; exact hlC M) e
    simp only [List.forIn_nil]
    refine seg_bind_wrap (wpAny_pure ?_)
    simp only [if_true]
    have hy : ∀ v, yieldOut cenv v = yieldValue v := fun v => by simp only [yieldOut, hco, Bool.false_eq_true, if_false]
    simp only [hy]
    rw [Sem.bind_eq_wrap', Sem.bind_eq_wrap', Sem.wrap_wrap, Sem.wrap_wrap]
    refine seg_wrap (wpAny_mono (tg_elt B M2 (x := x) (r := r) (row := row) hk hgl hbl hL hx ht hd (by rw [hL]; exact n2) (by simp) (hH0.imp (M.le r _) (M.le r _))) (fun y s3 h3 => ?_) fun _ _ z => z)
    obtain ⟨q, H3, rfl, M3, hq, le3, kp3, h4, tk4, rfl⟩ := h3
    have hne : sizeLine - i = (sizeLine - (i + 1)) + 1 := by omega
    rw [hne]
    refine seg_at (seg_yield rfl rfl rfl ⟨⟨bs, H3, by omega, M3⟩, fun s5 sl => ?_⟩)
    have M5 := M3.woken sl
    refine seg_again rfl (ih (i + 1) s5 s5 (bs ++ [q]) H3 (by omega) hlt (by rw [List.length_append, hlen]; rfl) M5 ?_ ?_)
    · obtain ⟨_, _, z3, _⟩ := sl
      refine (W A hh).frame _ _ _ st2 fun b hb o e => z3 b o ?_ (kp3 b o e)
      rcases List.mem_cons.mp hb with z | z
      · rw [z]; exact fun y => by have h1 := T.hS; have h2 := T.hIs; rw [← y] at h1; exact absurd (Nat.lt_of_lt_of_le h2 h1) (Nat.lt_irrefl _)
      · rw [List.mem_singleton.mp z]
        obtain ⟨o, e⟩ := hl
        exact fun y => by have := M.le l o e; rw [y, M.nS] at this; cases this
    · intro j b row' hj hr'
      by_cases hji : j < bs.length
      · rw [List.getElem?_append_left hji] at hj
        exact le3 _ _ (hrow j b row' hj hr')
      · rw [List.getElem?_append_right (by omega)] at hj
        have hj0 : j - bs.length = 0 := by
          cases e : j - bs.length with
          | zero => rfl
          | succ n => rw [e] at hj; cases hj
        rw [hj0] at hj
        obtain rfl : q = b := Option.some.inj hj
        obtain rfl : j = i := by omega
        rw [hrw] at hr'
        obtain rfl := Option.some.inj hr'
        exact hq
end AK
set_option Elab.async false
set_option linter.all false
set_option maxRecDepth 100000
set_option maxHeartbeats 4000000
namespace AK
open PySem PySem.Spec PyProof.Rows L2 GenW
theorem TgM.gens {T : TgC} {bs : List Addr} {H : Hp} {s : Shared} (M : TgM T bs H s) {G : Array GenState} (hG : AllBare G) : TgM T bs H { s with gens := G } :=
  ⟨M.os, hG, M.lim, M.gen, M.un, M.ok, M.fr, M.ls, M.nI, M.nC, M.nS, M.na, M.le, M.bk⟩
theorem TgM.kept {T : TgC} {bs : List Addr} {H : Hp} {s : Shared} (M : TgM T bs H s) {h' : Heap} {tk : Nat} (k : ∀ b o, s.heap.get? b = some o → h'.get? b = some o) : TgM T bs H { s with heap := h', toks := tk } :=
  M.move (fun b o _ _ e => k b o e) (by obtain ⟨m, hm⟩ := M.fr; exact ⟨m, hm.keeps k⟩)
theorem TgM.len {T : TgC} {bs : List Addr} {H : Hp} {s : Shared} {acc : Array Value} (r : Vals (bs.map V.ref) acc.toList) : acc.size = bs.length := by
  have h := r.length
  rw [List.length_map] at h
  rw [← Array.length_toList]
  exact h.symm
theorem tg_drain {T : TgC} {rows : List (List V)} {A : Around} {Rr : Result → Shared → Prop} {res : Value} (hh : A.handled = none) (hd : A.depth < recursionLimit)
    (hend : ∀ s' bs H', TgM T bs H' s' → TgQ T rows (bs.map V.ref) H' → Rr (.ok (.ret res)) s') :
    ∀ (m : Nat) (s : Shared), s.heap.IsGen T.a T.g → s.heap.NoLimit → (∃ gs, s.gens[T.g]? = some gs ∧ gs.Goes (model T.P T.w) A.in1.in1 (tgR T rows) (tgY T) m (.send .none) (s.setGen T.g .running)) →
      codeAny (model T.P T.w) A (.builtin "list.extend.loop" ⟨[.ref T.S, .ref T.a, res], []⟩) Rr s := by
  intro m
  induction m with
  | zero =>
    intro s hg hl ⟨gs, hgs, hgo⟩
    refine codeAny_builtin F.entry_extend_loop ?_
    rw [Around.under_plainId F.plain_extend_loop _]
    show wpAny _ A.in1 (pyNext (.ref T.a) >>= _) _ _ s
    refine wpAny_bind (wpAny_pyNext_genexpQ (A := A.in1) (P := fun _ _ s1 => ∃ bs H', TgM T bs H' s1 ∧ TgQ T rows (bs.map V.ref) H') hh hl hd hg hgs hgo (fun v s1 gs' hb hv => ?_) (fun s1 hp h' hk => ?_))
    · obtain ⟨⟨bs, H', _, M⟩, go⟩ := hv
      obtain ⟨acc, c, e1, _⟩ := M.ls
      exact (go _ (Slept.push e1 M.bare)).elim
    · obtain ⟨bs, H', M, q⟩ := hp
      exact wpAny_pure (hend _ bs H' ((M.kept hk (tk := s1.toks)).gens (allBare_setGen M.bare rfl)) q)
  | succ m ih =>
    intro s hg hl ⟨gs, hgs, hgo⟩
    have hgl : T.g < s.gens.size := (Array.getElem?_eq_some_iff.mp hgs).1
    refine codeAny_builtin F.entry_extend_loop ?_
    rw [Around.under_plainId F.plain_extend_loop _]
    show wpAny _ A.in1 (pyNext (.ref T.a) >>= _) _ _ s
    refine wpAny_bind (wpAny_gsz (n := T.g + 1) hgl (wpAny_pyNext_genexpQ (A := A.in1) (P := fun _ _ s1 => ∃ bs H', TgM T bs H' s1 ∧ TgQ T rows (bs.map V.ref) H') hh hl hd hg hgs hgo (fun v s1 gs' hb hv => ?_) (fun s1 hp h' hk => ?_)))
    · intro hsz
      obtain ⟨⟨bs, H', hn, M⟩, go⟩ := hv
      obtain ⟨acc, c, e1, e2⟩ := M.ls
      have hacc : acc.size = bs.length := TgM.len (T := T) (H := H') (s := s1) e2
      have hs1 : T.g < s1.gens.size := by
        have q : (s1.setGen T.g gs').gens.size = s1.gens.size := setGen_size _ _ _
        have hsz' : T.g + 1 ≤ (s1.setGen T.g gs').gens.size := hsz
        omega
      show wpAny _ A.in1 (updateSeq T.S (·.push v) >>= _) _ _ _
      refine wpAny_bind (wpAny_updateSeq (s := s1.setGen T.g gs') e1 rfl (wpAny_pure ⟨plainId_quiet F.plain_extend_loop _, ?_⟩) (by omega) (by show (acc.push v).size ≤ sizeLine + 1; rw [Array.size_push]; omega))
      have kp : ∀ b o, b ≠ T.S → s1.heap.get? b = some o → (s1.heap.update T.S (Obj.mapSeq (·.push v))).get? b = some o := fun b o hb e => (Heap.get?_update_other _ _ (Ne.symm hb)).trans e
      refine ih { s1.setGen T.g gs' with heap := s1.heap.update T.S (Obj.mapSeq (·.push v)) } ?_ ?_ ⟨gs', setGen_at hs1, ?_⟩
      · obtain ⟨og, g1, g2, g3, g4⟩ := M.gen
        exact ⟨og, g1, g2, kp _ _ (Ne.symm T.hSa) g3, g4⟩
      · exact lim_of M.lim fun o e => kp _ o (Nat.ne_of_lt (Nat.lt_of_lt_of_le T.hst (Nat.le_trans T.hb T.hS))) e
      · exact go _ (Slept.push e1 (allBare_setGen (s := s1.setGen T.g gs') (allBare_setGen M.bare hb) rfl))
    · intro hsz
      obtain ⟨bs, H', M, q⟩ := hp
      exact wpAny_pure (hend _ bs H' ((M.kept hk (tk := s1.toks)).gens (allBare_setGen M.bare rfl)) q)
end AK
set_option Elab.async false
set_option linter.all false
set_option maxRecDepth 100000
set_option maxHeartbeats 4000000
namespace AK
open PySem PySem.Spec PyProof.Rows L2 GenW
/-- the generator at a, not begun; W: what it is woken to, whatever list S is to be filled -/
def TgWake (P : Program) (w : World) (A : Around) (a : Addr) (g : Nat) (rows : List (List V)) (s : Shared) (Z : Array Value → Nat → Shared → Prop) : Prop :=
  ∀ (S : Addr) (s2 : Shared), s.heap.objs.size ≤ S → (∀ b o, s.heap.get? b = some o → s2.heap.get? b = some o) → (∃ c, s2.heap.get? S = some (lstObj #[] c)) → s2.os = s.os → s2.gens = s.gens →
    ∃ T : TgC, T.P = P ∧ T.w = w ∧ T.S = S ∧ T.a = a ∧ T.g = g ∧ (∃ gs, s2.gens[g]? = some gs ∧ gs.Goes (model P w) A (tgR T rows) (tgY T) sizeLine (.send .none) (s2.setGen g .running)) ∧
      ∀ s' bs H' acc c, TgM T bs H' s' → TgQ T rows (bs.map V.ref) H' → s'.heap.get? S = some (lstObj acc c) → Vals (bs.map V.ref) acc.toList → Z acc c s'
section
variable {P : Program} {w : World} {A : Around} {E : Value → Shared → Prop} {s : Shared}
theorem tg_collect {Q : List Value → Shared → Prop} {a : Addr} {g : Nat} {rows : List (List V)} (hh : A.handled = none) (hd : A.depth < recursionLimit) (hg : s.heap.IsGen a g) (hl : s.heap.NoLimit)
    (W : TgWake P w A.in1.in1 a g rows s (fun acc _ s' => Q acc.toList s')) : wpAny (model P w) A (collect (.ref a)) Q E s := by
  have ha : a < s.heap.objs.size := by obtain ⟨_, _, _, e, _⟩ := hg; exact Heap.lt_size e
  have hSa : s.heap.objs.size ≠ a := Nat.ne_of_gt ha
  have hSc : s.heap.objs.size ≠ cStatics := by obtain ⟨_, hn, _⟩ := hl; exact Nat.ne_of_gt hn.lt
  unfold collect; refine wpAny_bind (wpAny_runValue (codeAny_builtin F.entry_proto_collect ?_)); rw [Around.under_plainId F.plain_proto_collect _]
  show wpAny _ A.in1 (newList [] >>= fun q => again (.builtin "list.__iadd__" ⟨[q, .ref a], []⟩)) _ _ s
  refine wpAny_bind (wpAny_newObj_type ?_); refine wpAny_pure ⟨plainId_quiet F.plain_list_iadd _, codeAny_builtin F.entry_list_iadd ?_⟩; rw [Around.under_plainId F.plain_list_iadd _]
  have kp : ∀ b o, s.heap.get? b = some o → (s.heap.push { cls := .type "list", data := .seq ([] : List Value).toArray }).get? b = some o := fun b o e => Heap.get?_push_of_some _ e
  have ty : ∀ {h : Heap}, (∀ b o, s.heap.get? b = some o → h.get? b = some o) → h.IsGen a g := fun {h} q => hg.keeps q
  show wpAny _ A.in1 (Builtin.List.listExtendWith (.ref s.heap.objs.size) (.ref a) (.ref s.heap.objs.size)) _ _ _
  unfold Builtin.List.listExtendWith; refine wpAny_bind (wpAny_typeOf (Heap.IsGen.typeIs (s := { s with heap := _ }) (ty kp)) ?_)
  have d1 : Builtin.List.listSameRef (.ref s.heap.objs.size) (.ref a) = false := by simp [Builtin.List.listSameRef, hSa]
  have d2 : (Value.type "generator" == Value.type "list") = false ∧ (Value.type "generator" == Value.type "tuple") = false := ⟨by decide, by decide⟩
  simp only [d1, d2.1, d2.2, Bool.or_false, Bool.false_eq_true, if_false]
  refine wpAny_bind (wpAny_pyIter_gen (s := { s with heap := _ }) (ty kp) (wpAny_bind (wpAny_holding ?_)))
  unfold Builtin.List.listLengthHint; refine wpAny_bind (wpAny_specialOf (Heap.IsGen.typeIs (s := { s with heap := _ }) (ty kp)) F.gen_no_len ?_)
  show wpAny _ A.in1 (specialOf (Value.ref a) (Str.ofString "__length_hint__") >>= _) _ _ _
  refine wpAny_bind (wpAny_specialOf (Heap.IsGen.typeIs (s := { s with heap := _ }) (ty kp)) F.gen_no_hint (wpAny_pure ?_))
  show wpAny _ A.in1 (rule "list.extend.makes-room" >>= fun _ => Builtin.List.listTouch (.ref s.heap.objs.size) >>= fun _ => again (.builtin "list.extend.loop" ⟨[.ref s.heap.objs.size, .ref a, .ref s.heap.objs.size], []⟩)) _ _ _
  refine wpAny_bind (wpAny_rule (wpAny_bind ?_))
  have e1 : (s.heap.push { cls := .type "list", data := .seq ([] : List Value).toArray }).get? s.heap.objs.size = some { cls := .type "list", data := .seq ([] : List Value).toArray } := Heap.get?_push_size _ rfl
  show wpAny _ A.in1 (updateSeq s.heap.objs.size (·.push .none) >>= fun _ => updateSeq s.heap.objs.size (·.pop)) _ _ _
  refine wpAny_bind (wpAny_updateSeq e1 rfl ?_)
  have e2 := Heap.get?_update_self (Obj.mapSeq (·.push Value.none)) e1 rfl
  refine wpAny_updateSeq e2 rfl ?_
  have e3 := Heap.get?_update_self (Obj.mapSeq (·.pop)) e2 rfl
  have kp3 : ∀ b o, s.heap.get? b = some o → (((s.heap.push { cls := .type "list", data := .seq ([] : List Value).toArray }).update s.heap.objs.size (Obj.mapSeq (·.push Value.none))).update s.heap.objs.size (Obj.mapSeq (·.pop))).get? b = some o := fun b o e => by
    have hb : s.heap.objs.size ≠ b := Nat.ne_of_gt (Heap.lt_size e)
    exact (Heap.get?_update_other _ _ hb).trans ((Heap.get?_update_other _ _ hb).trans (kp b o e))
  obtain ⟨T, rfl, rfl, t3, rfl, rfl, go, fin⟩ := W s.heap.objs.size { s with heap := _ } (Nat.le_refl _) kp3 ⟨_, e3⟩ rfl rfl
  refine wpAny_pure ⟨plainId_quiet F.plain_extend_loop _, ?_⟩
  have D : ∀ Rr : Result → Shared → Prop, (∀ s' bs H', TgM T bs H' s' → TgQ T rows (bs.map V.ref) H' → Rr (.ok (.ret (.ref s.heap.objs.size))) s') → codeAny (model T.P T.w) A (.builtin "list.extend.loop" ⟨[.ref T.S, .ref T.a, .ref s.heap.objs.size], []⟩) Rr _ := fun Rr h =>
    tg_drain (T := T) (rows := rows) (A := A) (res := .ref s.heap.objs.size) hh hd h sizeLine { s with heap := _ } (ty kp3) (hl.keeps kp3) go
  rw [t3] at D
  refine D _ fun s' bs H' M q => ?_
  obtain ⟨acc, c, f1, f2⟩ := M.ls
  rw [t3] at f1
  show wpAny _ A (load s.heap.objs.size >>= _) _ _ s'
  exact wpAny_bind (wpAny_load f1 (wpAny_pure (fin s' bs H' acc c M q f1 f2)))
end
end AK
set_option Elab.async false
set_option linter.all false
set_option maxRecDepth 100000
set_option maxHeartbeats 4000000
namespace AK
open PySem PySem.Spec PyProof.Rows L2 GenW
section
variable {P : Program} {w : World} {A : Around} {E : Value → Shared → Prop} {s : Shared}
theorem tg_new {Q : Value → Shared → Prop} {a : Addr} {g : Nat} {rows : List (List V)} (hh : A.handled = none) (hd : A.depth < recursionLimit) (hg : s.heap.IsGen a g) (hl : s.heap.NoLimit)
    (W : TgWake P w A.in1.in1.in1 a g rows s (fun acc _ s' => acc.size ≤ sizeLine ∧ Q (.ref s'.heap.objs.size) { s' with heap := s'.heap.push { cls := .type "tuple", data := .seq acc } })) :
    codeAny (model P w) A (.call (.builtin "tuple.__new__") ⟨[.type "tuple", .ref a], []⟩) (wants Q E) s := by
  refine codeAny_of_tree ?_; show wpAny _ A.in1 (do checkBuiltinCall "tuple.__new__" ⟨[.type "tuple", .ref a], []⟩; again (.builtin "tuple.__new__" ⟨[.type "tuple", .ref a], []⟩)) _ _ s
  refine wpAny_bind (wpAny_of_eq (F.newCall_tuple_1 _) (wpAny_pure ⟨plainId_quiet F.plain_tuple_new _, codeAny_builtin F.entry_tuple_new ?_⟩)); rw [Around.under_plainId F.plain_tuple_new _]
  have z1 := sub_tuple_self
  have z2 := init_tuple_lookup
  have z3 := madeHere_tuple
  have z4 : s.TypeIs (.ref a) "generator" := hg.typeIs
  have C : ∀ (Q' : List Value → Shared → Prop) (E' : Value → Shared → Prop), (∀ acc s', acc.size ≤ sizeLine → Q (.ref s'.heap.objs.size) { s' with heap := s'.heap.push { cls := .type "tuple", data := .seq acc } } → Q' acc.toList s') → wpAny (model P w) A.in1 (collect (.ref a)) Q' E' s := fun Q' E' h =>
    tg_collect (rows := rows) hh (by show A.depth < _; exact hd) hg hl (fun S s2 x1 x2 x3 x4 x5 => by
      obtain ⟨T, t1, t2, t3, t4, t5, go, fin⟩ := W S s2 x1 x2 x3 x4 x5
      exact ⟨T, t1, t2, t3, t4, t5, go, fun s' bs H' acc c y1 y2 y3 y4 => h acc s' (fin s' bs H' acc c y1 y2 y3 y4).1 (fin s' bs H' acc c y1 y2 y3 y4).2⟩)
  wp_walk using wpAny_typeOf z4, C
  intro acc s' hz hq
  show wpAny _ _ (Builtin.Tuple.tupleExact acc.toList.toArray >>= fun v => ret v) _ _ _
  unfold Builtin.Tuple.tupleExact; refine wpAny_bind (wpAny_newObj_type (wpAny_pure ?_) (by show acc.toList.toArray.size ≤ sizeLine; simp only [Array.toArray_toList]; exact hz))
  have e : acc.toList.toArray = acc := by simp
  rw [e]
  exact hq
theorem tg_tuple {Q : Value → Shared → Prop} {a : Addr} {g : Nat} {rows : List (List V)} (hh : A.handled = none) (hd : A.depth < recursionLimit) (hg : s.heap.IsGen a g) (hl : s.heap.NoLimit)
    (W : TgWake P w A.in1.in1.in1.in1 a g rows s (fun acc _ s' => acc.size ≤ sizeLine ∧ Q (.ref s'.heap.objs.size) { s' with heap := s'.heap.push { cls := .type "tuple", data := .seq acc } })) :
    wpAny (model P w) A (call (.type "tuple") [.ref a]) Q E s := by
  refine callType_codes (Q₁ := fun obj s1 => s1.TypeIs obj "tuple" ∧ Q obj s1) F.called_tuple (F.typeCall_tuple_1 _) F.entry_object_init (tg_new (A := A.in1) (rows := rows) hh (by show A.depth < _; exact hd) hg hl fun S s2 x1 x2 x3 x4 x5 => ?_) fun obj s1 h1 => ?_
  · obtain ⟨T, t1, t2, t3, t4, t5, go, fin⟩ := W S s2 x1 x2 x3 x4 x5
    exact ⟨T, t1, t2, t3, t4, t5, go, fun s' bs H' acc c y1 y2 y3 y4 => ⟨(fin s' bs H' acc c y1 y2 y3 y4).1, ⟨_, Heap.get?_push_size _ rfl, rfl⟩, (fin s' bs H' acc c y1 y2 y3 y4).2⟩⟩
  · exact ⟨h1.1, F.args_object_init_2 obj _, object_init_meets F.called_tuple.init.lookup F.called_tuple.made (by decide) P w A.in1 _ s1 ⟨h1.1, rfl, h1.2⟩⟩
end
end AK
set_option Elab.async false
set_option linter.all false
set_option maxRecDepth 100000
set_option maxHeartbeats 4000000
namespace AK
open PySem PySem.Spec PyProof.Rows L2 GenW
/-- a list or a tuple that H holds itself -/
def RowAt (H : Hp) (a : Addr) (row : List V) : Prop := H a = some (.lst row) ∨ H a = some (.tup row)
/-- tuple(tuple(x) for x in te): te a list or tuple of lists or tuples; behind it the def's table at P may have grown -/
def tTupG (P : Addr) (te : TE) : TE := fun σ H Q => te σ H fun v H1 => ∃ (l : Addr) (as : List Addr) (rows : List (List V)), v = .ref l ∧ RowAt H1 l (as.map V.ref) ∧ as.length = rows.length ∧ as.length ≤ sizeLine ∧
  (∀ (i : Nat) (a : Addr) (row : List V), as[i]? = some a → rows[i]? = some row → RowAt H1 a row) ∧ GxR.TabG H1 P ∧
  ∀ (H2 : Hp) (t : Addr) (bs : List Addr), (∀ b o, b ≠ P → H1 b = some o → H2 b = some o) → GxR.TabG H2 P → H1 t = none → H2 t = some (.tup (bs.map V.ref)) → bs.length = rows.length →
    (∀ (i : Nat) (b : Addr) (row : List V), bs[i]? = some b → rows[i]? = some row → H2 b = some (.tup row)) → Q (.ref t) H2
section
variable {X : Cx}
theorem pe_tupG {c P : Addr} {iter : Expr} {x : Str} {px p0 p1 p2 p3 pos gpos : Pos} {scope : Scope} {te : TE} {k : Nat}
    (hr : Room k X.A) (hg : Gl X "tuple") (hm : X.mg "tuple" = none) (TB : GxR.TabB X.base X.mg c P) (hcode : X.env.code = .ref c) (S : GxR.GenS X.env scope x) (hi : PE X iter te) (hgt : scope.names.lookup (Str.ofString "tuple") = some .globalImplicit) (hd : (x == ("__debug__" : Str)) = false)
    (hs : ∀ v, genFold iter X.env v = pure v)
    (he : starEach [.GeneratorExp (.Call (.Name "tuple" p1) [.Name x p2] [] p3) [⟨.Name x px, iter, [], 0⟩] scope gpos] X.env = (false, eval (.GeneratorExp (.Call (.Name "tuple" p1) [.Name x p2] [] p3) [⟨.Name x px, iter, [], 0⟩] scope gpos) X.env) :: starEach [] X.env := by rfl) :
    PE X (.Call (.Name "tuple" p0) [.GeneratorExp (.Call (.Name "tuple" p1) [.Name x p2] [] p3) [⟨.Name x px, iter, [], 0⟩] scope gpos] [] pos) (tTupG P te) := by
  refine ⟨fun pins s σ H Q I h => ?_⟩
  refine wpAny_Call_Name_kw (ld_blt (u := .type "tuple") I hg hm (by decide +kernel) ?_)
  refine PyProof.Rows.callWith_type1 ?_ he (by rfl)
  rw [he]
  show wpAny _ _ (spliced ((false, eval (.GeneratorExp (.Call (.Name "tuple" p1) [.Name x p2] [] p3) [⟨.Name x px, iter, [], 0⟩] scope gpos) X.env) :: backTo pos (starEach [] X.env))) _ _ s
  refine Calls.spliced_cons (wpAny_GeneratorExp_make S.co (closure_ok S.free) S.cell S.dot S.kind hr.depth ?_ hs)
  refine thn (hi.run pins s σ H _ I h) fun xv s1 ⟨v, H1, I1, r1, q1⟩ => ?_
  obtain ⟨l, as, rows, rfl, hl, hlen, hle, hrow, ⟨ps, hP, ht⟩, q1⟩ := q1
  obtain rfl : xv = Value.ref l := r1
  have hPs : s1.heap.get? P = some { cls := .none, data := .fields ps } := I1.hok P _ hP
  have hPlt : P < s1.heap.objs.size := Heap.lt_size hPs
  -- what follows once the iterator o stands at I = s1's size
  have core : ∀ (o : Obj) (its : Array Value) (St₀ : Nat → Heap → Prop), its.size = rows.length → (∀ (i : Nat) (v : Value), its[i]? = some v → ∃ a, v = .ref a ∧ as[i]? = some a) → (∀ A' : Around, A'.handled = none → Walks X.prog X.w A' s1.heap.objs.size [s1.heap.objs.size, l] [s1.heap.objs.size] its.size (fun i v => its[i]? = some v) St₀) →
      (∀ h : Heap, (∀ b u, (b = s1.heap.objs.size ∨ b = l) → (s1.heap.push o).get? b = some u → h.get? b = some u) → St₀ 0 h) →
      (s1.heap.push o).NoLimit ∧ wpAny (model X.prog X.w) X.A (genexprCode X.env gpos (X.env.qual ++ "<genexpr>") scope) (fun code s3 => wpAny (model X.prog X.w) X.A (builtinsFor X.env.globals X.env.builtins) (fun bi s4 =>
        ∀ h', h'.Ns s4.heap.objs.size (fun y => if y = ".0" then some (.ref s1.heap.objs.size) else none) → Heap.SameBut s4.heap.objs.size (s4.heap.push { cls := .type "frame", data := .dict #[] }) h' →
          wpAny (model X.prog X.w) X.A (spliced (backTo pos (starEach [] X.env))) (fun vs s9 => wpAny (model X.prog X.w) X.A (call (.type "tuple") (.ref h'.objs.size :: vs)) (EP X pins σ Q) X.xe s9) X.xe { s4 with
            gens := s4.gens.push (.fresh (.compStart (.GeneratorExp (.Call (.Name "tuple" p1) [.Name x p2] [] p3) [⟨.Name x px, iter, [], 0⟩] scope gpos) 0 (.ref s1.heap.objs.size) .none (genEnv scope (cloFrom X.env.cells scope.names []) s4.heap.objs.size code bi X.env))),
            toks := s4.toks + 1 + 1 + 1,
            heap := h'.push { cls := .type "generator", data := .fields #[.int s4.gens.size 0, .str "<genexpr>" (s4.toks + 1), .str (X.env.qual ++ "<genexpr>") (s4.toks + 1 + 1)] } }) X.xe s3) X.xe { s1 with heap := s1.heap.push o } := by
    intro o its St₀ hsz hat W hst0
    have kp1 : ∀ b u, s1.heap.get? b = some u → (s1.heap.push o).get? b = some u := fun b u e => Heap.get?_push_of_some _ e
    have hP2 : (s1.heap.push o).get? P = some { cls := .none, data := .fields ps } := kp1 _ _ hPs
    have cd : PySem.W.CodeHd (s1.heap.push o) c P := TB.code.keeps fun b u e => kp1 b u (I1.bk b u e)
    have lim2 : (s1.heap.push o).NoLimit := I1.nolimit.push o
    refine ⟨lim2, ?_⟩
    have rest : ∀ (code : Value) (h3 : Heap) (tk : Nat) (ps' : Array Value), Heap.ExtBut P (s1.heap.push o) h3 → (s1.heap.push o).objs.size ≤ h3.objs.size → h3.get? P = some { cls := .none, data := .fields ps' } → (∃ more, ps' = ps ++ more) → TriplesOk ps'.toList →
        wpAny (model X.prog X.w) X.A (builtinsFor X.env.globals X.env.builtins) (fun bi s4 =>
          ∀ h', h'.Ns s4.heap.objs.size (fun y => if y = ".0" then some (.ref s1.heap.objs.size) else none) → Heap.SameBut s4.heap.objs.size (s4.heap.push { cls := .type "frame", data := .dict #[] }) h' →
            wpAny (model X.prog X.w) X.A (spliced (backTo pos (starEach [] X.env))) (fun vs s9 => wpAny (model X.prog X.w) X.A (call (.type "tuple") (.ref h'.objs.size :: vs)) (EP X pins σ Q) X.xe s9) X.xe { s4 with
              gens := s4.gens.push (.fresh (.compStart (.GeneratorExp (.Call (.Name "tuple" p1) [.Name x p2] [] p3) [⟨.Name x px, iter, [], 0⟩] scope gpos) 0 (.ref s1.heap.objs.size) .none (genEnv scope (cloFrom X.env.cells scope.names []) s4.heap.objs.size code bi X.env))),
              toks := s4.toks + 1 + 1 + 1,
              heap := h'.push { cls := .type "generator", data := .fields #[.int s4.gens.size 0, .str "<genexpr>" (s4.toks + 1), .str (X.env.qual ++ "<genexpr>") (s4.toks + 1 + 1)] } }) X.xe { s1 with heap := h3, toks := tk } := by
      intro code h3 tk ps' hx hsz3 hP3 hmore ht3
      obtain ⟨more, rfl⟩ := hmore
      obtain ⟨bm, ob, b1, b2, b3, b4, b5, b6, b7, b8⟩ := TB.bm
      have kp3 : ∀ b u, b ≠ P → s1.heap.get? b = some u → h3.get? b = some u := fun b u hb e => hx b u hb (kp1 b u e)
      have sz1 : (s1.heap.push o).objs.size = s1.heap.objs.size + 1 := Heap.size_push ..
      have hcP : cStatics ≠ P := fun z => by
        obtain ⟨_, ⟨o', es, ep, ho, hd', _⟩, _⟩ := I1.nolimit
        rw [z, hPs] at ho
        cases ho
        cases hd'
      refine wpAny_builtinsFor (m := X.mg) (by rw [I1.ok.glob]; exact ((I1.mod.glob.keeps I1.bk).push o).extBut hx TB.gP) b1 b2 (kp3 _ _ b4 (I1.bk _ _ b5)) b6 b7 b8 ?_
      intro h' hn' sb
      refine Calls.spliced_nil ?_
      have J : Inv X pins σ (upd H1 P (.tbl (ps ++ more))) { s1 with heap := h3, toks := tk } := GxR.inv_tab (g' := s1.gens) (d' := s1.drawn) I1 hP kp3 hP3 I1.bare
      have szh : h'.objs.size = h3.objs.size + 1 := by rw [sb.1, Heap.size_push]
      have kp4 : ∀ b u, h3.get? b = some u → h'.get? b = some u := fun b u e => sb.extBut b u (Nat.ne_of_lt (Heap.lt_size e)) (Heap.get?_push_of_some _ e)
      have lim3 : h3.NoLimit := J.nolimit
      have upd_at : ∀ b, b ≠ P → upd H1 P (.tbl (ps ++ more)) b = H1 b := fun b hb => upd_ne hb
      have neP : ∀ {b u}, H1 b = some u → (∀ q, u ≠ .tbl q) → b ≠ P := fun {b u} e hq z => by
        rw [z, hP] at e
        exact hq ps (Option.some.inj e).symm
      have rowP : ∀ {b row}, RowAt H1 b row → b ≠ P := fun {b row} r => by
        rcases r with r | r
        · exact neP r fun q z => by cases z
        · exact neP r fun q z => by cases z
      have row4 : ∀ {b row}, RowAt H1 b row → RowAt (upd H1 P (.tbl (ps ++ more))) b row := fun {b row} r => by
        have hb := rowP r
        unfold RowAt
        rw [upd_at b hb]
        exact r
      have baseLt : cStatics < X.base.objs.size := by
        obtain ⟨_, hn, _⟩ := I1.ok.mod.nolimit
        exact hn.lt
      have bsz1 : X.base.objs.size ≤ s1.heap.objs.size := Nat.le_trans I1.ok.bsz I1.sz
      refine tg_tuple (rows := rows) hr.hd hr.depth ⟨_, _, _, Heap.get?_push_size _ rfl, rfl, rfl, rfl⟩ ?_ ?_
      · exact lim3.keeps fun b u e => Heap.get?_push_of_some _ (kp4 b u e)
      intro Z s2 x1 x2 x3 x4 x5
      have szG : (h'.push { cls := .type "generator", data := .fields #[.int s1.gens.size 0, .str "<genexpr>" (tk + 1), .str (X.env.qual ++ "<genexpr>") (tk + 1 + 1)] }).objs.size = h3.objs.size + 2 := by rw [Heap.size_push, szh]
      have x1' : h3.objs.size + 2 ≤ Z := by rw [← szG]; exact x1
      have kp5 : ∀ b u, h3.get? b = some u → s2.heap.get? b = some u := fun b u e => x2 b u (Heap.get?_push_of_some _ (kp4 b u e))
      have h31 : s1.heap.objs.size + 1 ≤ h3.objs.size := by rw [← sz1]; exact hsz3
      have y3 : s1.heap.objs.size < h3.objs.size := h31
      have y4 : h3.objs.size < Z := Nat.lt_of_lt_of_le (Nat.lt_add_of_pos_right (by decide)) x1'
      have y5 : h3.objs.size < h'.objs.size := by rw [szh]; exact Nat.lt_succ_self _
      have y6 : h'.objs.size < Z := by rw [szh]; exact x1'
      have y1 : h3.objs.size ≤ Z := Nat.le_of_lt y4
      have y2 : h3.objs.size ≤ h'.objs.size := Nat.le_of_lt y5
      have hg2 : s2.gens[s1.gens.size]? = some (.fresh (.compStart (.GeneratorExp (.Call (.Name "tuple" p1) [.Name x p2] [] p3) [⟨.Name x px, iter, [], 0⟩] scope gpos) 0 (.ref s1.heap.objs.size) .none (genEnv scope (cloFrom X.env.cells scope.names []) h3.objs.size code builtinsNs X.env))) := by
        rw [x5]
        exact Array.getElem?_push_size ..
      let T : TgC := ⟨X.prog, X.w, frs X.stack, X.base, upd H1 P (.tbl (ps ++ more)), { s1 with heap := h3, toks := tk }, s1.heap.objs.size, h3.objs.size, Z, h'.objs.size, s1.gens.size, bsz1, Nat.le_refl _, y1, y2, Nat.le_trans bsz1 (Nat.le_of_lt y3), y3, Nat.ne_of_lt y4, Nat.ne_of_lt y5, Nat.ne_of_gt y6, baseLt⟩
      have B : TgB T X.mg := ⟨I1.mod.glob, I1.mod.blt, hm⟩
      have fresh4 : ∀ b : Addr, h3.objs.size ≤ b → upd H1 P (.tbl (ps ++ more)) b = none := fun b hb => J.hok.fresh hb
      have n1I : upd H1 P (.tbl (ps ++ more)) s1.heap.objs.size = none := by
        rw [upd_at _ (Nat.ne_of_gt hPlt)]
        exact I1.hok.fresh (Nat.le_refl _)
      have bare2 : AllBare s2.gens := by
        rw [x5]
        exact AllBare.push I1.bare rfl
      obtain ⟨c0, hS0⟩ := x3
      have M0 : TgM T [] (upd H1 P (.tbl (ps ++ more))) (s2.setGen s1.gens.size .running) :=
        ⟨x4, allBare_setGen bare2 rfl, lim3.keeps kp5, ⟨_, _, _, x2 _ _ (Heap.get?_push_size _ rfl), rfl, rfl, rfl⟩, Un.kept kp5, J.hok.kept kp5, ⟨_, (hn'.keeps fun b u e => x2 b u (Heap.get?_push_of_some _ e))⟩, ⟨#[], c0, hS0, .nil⟩, n1I, fresh4 _ (Nat.le_refl _), fresh4 _ y1, fresh4 _ y2, Same.refl _, fun b u e => kp5 b u (J.bk b u e)⟩
      refine ⟨T, rfl, rfl, rfl, rfl, rfl, ⟨_, hg2, rfl, ?_⟩, ?_⟩
      · -- the generator's code
        have W' := W
        have hh : X.A.in1.in1.in1.in1.handled = none := hr.hd
        have hh2 : (X.A.in1.in1.in1.in1.over (.compStart (.GeneratorExp (.Call (.Name "tuple" p1) [.Name x p2] [] p3) [⟨.Name x px, iter, [], 0⟩] scope gpos) 0 (.ref s1.heap.objs.size) .none (genEnv scope (cloFrom X.env.cells scope.names []) h3.objs.size code builtinsNs X.env)) []).handled = none := hr.hd
        have st0 : St₀ 0 (s2.setGen s1.gens.size .running).heap := hst0 _ fun b u hb e => kp5 b u (hx b u (by
          rcases hb with z | z
          · rw [z]; exact Nat.ne_of_gt hPlt
          · rw [z]; exact rowP hl) e)
        have loop := fun s0 => tg_loop (T := T) (mg := X.mg) B (A := X.A.in1.in1.in1.in1) (cenv := genEnv scope (cloFrom X.env.cells scope.names []) h3.objs.size code builtinsNs X.env) (x := x) (px := px) (p1 := p1) (p2 := p2) (p3 := p3) (pos := gpos) (iter := iter) (scope := scope) (l := l) (as := as) (rows := rows) (St₀ := St₀) (its := its)
          hh W hsz (by rw [← hlen]; exact hle) (fun i v hv => by
            obtain ⟨a, rfl, ha⟩ := hat i v hv
            have hi : i < rows.length := by rw [← hsz]; exact (Array.getElem?_eq_some_iff.mp hv).1
            exact ⟨a, rows[i], rfl, List.getElem?_eq_getElem hi, row4 (hrow i a _ ha (List.getElem?_eq_getElem hi))⟩)
          (by rcases row4 hl with z | z <;> exact ⟨_, z⟩) S.kind I1.ok.glob rfl rfl S.loc hgt hd S.co its.size 0 s0 (s2.setGen s1.gens.size .running) [] _ (Nat.sub_zero _) (Nat.zero_le _) rfl M0 st0 (fun j b row hj => by simp at hj)
        show Seg _ _ _ _ _ _ _ ((compStart (.GeneratorExp (.Call (.Name "tuple" p1) [.Name x p2] [] p3) [⟨.Name x px, iter, [], 0⟩] scope gpos) 0 (.ref s1.heap.objs.size) .none (genEnv scope (cloFrom X.env.cells scope.names []) h3.objs.size code builtinsNs X.env)).onRaise (leaving (genEnv scope (cloFrom X.env.cells scope.names []) h3.objs.size code builtinsNs X.env))) [] _
        unfold compStart
        rw [Sem.onRaise_eq_wrap]
        show Seg _ _ _ _ _ _ _ ((ask >>= _).wrap _ _ _ _) [] _
        refine seg_bind_wrap (wpAny_askSetting ?_)
        split
        · exact seg_again rfl (loop _)
        · first
            | exact seg_bind_wrap (wpAny_rule (seg_bind_wrap (wpAny_standAt (seg_bind_wrap ((W _ hh2).self 0 _ _ _ st0 (seg_again rfl (loop _)))))))
            | (refine seg_bind_wrap (wpAny_rule ?_); show Seg _ _ _ _ _ _ _ ((standAt iter.pos >>= _).wrap _ _ _ _) [] _; exact seg_bind_wrap (wpAny_standAt (seg_bind_wrap ((W _ hh2).self 0 _ _ _ st0 (seg_again rfl (loop _))))))
      · intro s' bs H' acc cc M q eS rv
        obtain ⟨bs', eb, hbl, hbt, hle', _⟩ := q
        have ebs : bs = bs' := by
          exact (List.map_inj_right fun y z h => V.ref.inj h).mp eb
        subst ebs
        have hacc : acc.size ≤ sizeLine := by
          have h1 : acc.size = bs.length := TgM.len (T := T) (H := H') (s := s') rv
          omega
        refine ⟨hacc, ?_⟩
        have ex : ExOk X pins [s1.heap.objs.size] := fun b hb => by
          rw [List.mem_singleton.mp hb]
          refine ⟨.inr I1.sz, Nat.ne_of_gt I1.lt, fun y c' e => ?_, fun p hp => ?_⟩
          · obtain ⟨v, o', ho, _⟩ := I1.cell y c' e
            exact Nat.ne_of_lt (Heap.lt_size ho)
          · exact Nat.ne_of_lt (Heap.lt_size (I1.pin p hp).1)
        have K1 : Inv X pins σ (upd H' Z (.lst (bs.map V.ref))) s' := J.drained y1 (by rw [List.length_map]; omega) eS rv ex M.os M.bare M.un M.ok M.nS
        have K2 : Inv X pins σ (upd (upd H' Z (.lst (bs.map V.ref))) s'.heap.objs.size (.tup (bs.map V.ref))) { s' with heap := s'.heap.push { cls := .type "tuple", data := .seq acc } } :=
          K1.laid (t' := s'.toks) (fun b o e => Heap.get?_push_of_some _ e) (Nat.le_refl _) (show ObjOk X.prog X.w _ _ _ (.tup (bs.map V.ref)) from ⟨by rw [List.length_map]; omega, acc.toList, rv, by
            have e : acc.toList.toArray = acc := by simp
            rw [e]
            exact IsTup.new _ _⟩)
        have fS : upd H' Z (.lst (bs.map V.ref)) s'.heap.objs.size = none := K1.hok.fresh (Nat.le_refl _)
        have up : ∀ b u, H' b = some u → upd (upd H' Z (.lst (bs.map V.ref))) s'.heap.objs.size (.tup (bs.map V.ref)) b = some u := fun b u e => by
          have e2 : upd H' Z (.lst (bs.map V.ref)) b = some u := by
            rw [upd_ne (ne_of_none e M.nS)]
            exact e
          rw [upd_ne (ne_of_none e2 fS)]
          exact e2
        have ltS : Z < s'.heap.objs.size := Heap.lt_size eS
        refine ⟨.ref s'.heap.objs.size, _, K2, rfl, q1 _ _ bs (fun b u hb e => up b u (hle' b u ((upd_at b hb).trans e))) ⟨_, up P _ (hle' P _ upd_same), ht3⟩ (I1.hok.fresh (Nat.le_of_lt (Nat.lt_trans y3 (Nat.lt_trans y4 ltS)))) upd_same hbl fun i b row h1 h2 => up b _ (hbt i b row h1 h2)⟩
    cases hf : codeAmong gpos ps.toList with
    | none =>
      refine wpAny_genexprCodeX hcode (cd.code hP2 ht) (cd.tab hP2) hf fun c' h' tk hx hge hlt hco' _ htab' _ => ?_
      obtain ⟨_, _, _, _, _, _, _, _, _, _, _, _, _, _, _, _, _, _, _, htr, _⟩ := hco'
      exact rest _ h' tk _ hx (Nat.le_trans hge (Nat.le_of_lt hlt)) htab'.2 ⟨_, rfl⟩ htr
    | some cv =>
      refine wpAny_genexprCode_hit hcode (cd.code hP2 ht) hf ?_
      exact rest cv (s1.heap.push o) s1.toks ps (Heap.ExtBut.refl _ _) (Nat.le_refl _) hP2 ⟨#[], by simp⟩ ht
  have itsAt : ∀ {its : List Value}, Vals (as.map V.ref) its → its.toArray.size = rows.length ∧ ∀ (i : Nat) (v : Value), its.toArray[i]? = some v → ∃ a, v = .ref a ∧ as[i]? = some a := fun {its} rv => by
    have e1 : its.length = as.length := by rw [← rv.length, List.length_map]
    refine ⟨by rw [List.size_toArray, e1, hlen], fun i v hv => ?_⟩
    have hv2 : its[i]? = some v := by simpa using hv
    have hi : i < as.length := by rw [← e1]; exact (List.getElem?_eq_some_iff.mp hv2).1
    have hb : (as.map V.ref)[i]? = some (V.ref as[i]) := by rw [List.getElem?_map, List.getElem?_eq_getElem hi] <;> rfl
    obtain ⟨u, hu, ru⟩ := rv.get hb
    rw [hv2] at hu
    cases hu
    exact ⟨as[i], ru, List.getElem?_eq_getElem hi⟩
  have hl0 := hl
  rcases hl0 with hl0 | hl0
  · obtain ⟨hz, its, n, rv, e⟩ := I1.hok l _ hl0
    have il : s1.heap.IsList l its.toArray := ⟨_, e, rfl, n, rfl⟩
    have hl1 : l < s1.heap.objs.size := Heap.lt_size e
    obtain ⟨z1, z2⟩ := itsAt rv
    refine wpAny_pyIter_list il (core { cls := .type "list_iterator", data := .fields #[.ref l, .int 0 0] } its.toArray (fun i h => h.IsListIter s1.heap.objs.size l i ∧ h.IsList l its.toArray) z1 z2 (fun A' hA => Walks.list hA _ _ (Nat.ne_of_lt hl1) _) fun h k => ?_)
    exact ⟨⟨_, k _ _ (.inl rfl) (Heap.get?_push_size _ rfl), rfl, rfl⟩, ⟨_, k _ _ (.inr rfl) (Heap.get?_push_of_some _ e), rfl, n, rfl⟩⟩
  · obtain ⟨hz, its, rv, o', e, ec, n, ed⟩ := I1.hok l _ hl0
    have il : s1.heap.IsTuple l its.toArray := ⟨o', e, ec, n, ed⟩
    have hl1 : l < s1.heap.objs.size := Heap.lt_size e
    obtain ⟨z1, z2⟩ := itsAt rv
    refine wpAny_pyIter_tuple il (core { cls := .type "tuple_iterator", data := .fields #[.ref l, .int 0 0] } its.toArray (fun i h => h.IsTupleIter s1.heap.objs.size l i ∧ h.IsTuple l its.toArray) z1 z2 (fun A' hA => Walks.tuple hA _ _ (Nat.ne_of_lt hl1) _) fun h k => ?_)
    exact ⟨⟨_, k _ _ (.inl rfl) (Heap.get?_push_size _ rfl), rfl, rfl⟩, ⟨o', k _ _ (.inr rfl) (Heap.get?_push_of_some _ e), ec, n, ed⟩⟩
end
end AK
set_option Elab.async false
set_option linter.all false
set_option maxRecDepth 100000
set_option maxHeartbeats 4000000
namespace AK
open PySem PySem.Spec PyProof.Rows L2
/-! ### enumerate(tuple) -/
theorem new_enumT (l : Addr) (items : Array Value) :
    Meets (Builtin.«enumerate.__new__» ⟨[.type "enumerate", .ref l], []⟩) (fun _ R s => s.heap.IsTuple l items ∧
      R (.ok (.ret (.ref (s.heap.push { cls := .type "tuple_iterator", data := .fields #[.ref l, .int 0 0] }).objs.size)))
        { s with heap := (s.heap.push { cls := .type "tuple_iterator", data := .fields #[.ref l, .int 0 0] }).push { cls := .type "enumerate", data := .fields #[.none, .bool false, .ref s.heap.objs.size, rawInt 0, .none, .none] } }) :=
  .of_wp fun prog w A R s h => by
    obtain ⟨hp, g, d, tk, os⟩ := s; obtain ⟨⟨o, ho, hc, n, hd⟩, h⟩ := h
    have hsub := sub_enumerate; have hT : Heap.IsTuple (Shared.heap ⟨hp, g, d, tk, os⟩) l items := ⟨o, ho, hc, n, hd⟩
    wp_walk using AutoSeq1.wpAny_loadPart' ho
    refine wpAny_stack_any fun st => wpAny_pure ?_; split
    · rename_i c _ _ _ _ _
      cases (c == Value.type "enumerate") <;> (wp_walk using AutoSeq1.wpAny_loadPart' ho, wpAny_pyIter_tuple hT; exact ⟨_, rfl, h⟩)
    · wp_walk using AutoSeq1.wpAny_loadPart' ho, wpAny_pyIter_tuple hT
      exact ⟨_, rfl, h⟩
theorem call_enumT {prog : Program} {w : World} {A : Around} {E : Value → Shared → Prop} {s : Shared} {l : Addr} {items : Array Value} {Q : Value → Shared → Prop} (hL : s.heap.IsTuple l items)
    (h : ∀ h', IsEnum h' (s.heap.objs.size + 1) s.heap.objs.size 0 .none → h'.IsTupleIter s.heap.objs.size l 0 → (∀ b o, s.heap.get? b = some o → h'.get? b = some o) → Q (.ref (s.heap.objs.size + 1)) { s with heap := h' }) :
    wpAny (model prog w) A (call (.type "enumerate") [.ref l]) Q E s := by
  refine callType_new F.called_enumerate (by decide) (F.typeCall_enumerate_1 _) (F.newCall_enumerate_1 _) (fun obj => F.args_object_init_2 obj _) F.entry_enumerate_new (new_enumT l items) ⟨hL, ?_⟩
  have hz : (s.heap.push { cls := .type "tuple_iterator", data := .fields #[.ref l, .int 0 0] }).objs.size = s.heap.objs.size + 1 := Heap.size_push ..
  show _ ∧ _
  rw [hz]
  have he : IsEnum ((s.heap.push { cls := .type "tuple_iterator", data := .fields #[.ref l, .int 0 0] }).push { cls := .type "enumerate", data := .fields #[.none, .bool false, .ref s.heap.objs.size, rawInt 0, .none, .none] }) (s.heap.objs.size + 1) s.heap.objs.size 0 .none := by
    have e := Heap.get?_push_size (s.heap.push { cls := .type "tuple_iterator", data := .fields #[.ref l, .int 0 0] }) (o := { cls := .type "enumerate", data := .fields #[.none, .bool false, .ref s.heap.objs.size, rawInt 0, .none, .none] }) rfl
    rw [hz] at e
    exact e
  exact ⟨⟨_, he, rfl⟩, h _ he ⟨_, Heap.get?_push_of_some _ (Heap.get?_push_size _ rfl), rfl, rfl⟩ fun b o x => Heap.get?_push_of_some _ (Heap.get?_push_of_some _ x)⟩
end AK
set_option Elab.async false
set_option linter.all false
set_option maxRecDepth 100000
set_option maxHeartbeats 4000000
namespace AK
open PySem PySem.Spec PyProof.Rows L2
/-- the tuple at a, each item in a new pair -/
def IteT (K : PySem.W.Frag) (a : Addr) : It :=
  ⟨fun i H => ∃ (xs : List V) (x : V), SqT K H a xs ∧ xs[i]? = some x, fun i H v H' => ∃ T x, v = .ref T ∧ H T = none ∧ H' = upd H T (.tup [.int (i : Nat), x]) ∧ ∀ xs, SqT K H a xs → xs[i]? = some x, fun i H => ∃ xs : List V, SqT K H a xs ∧ xs.length ≤ i⟩
theorem turn_enumT {P : Program} {w : World} {K : PySem.W.Frag} {elts : List Expr} {kk : Nat} {tpos : Pos} (a e it : Addr) :
    Turn P w K (.Tuple elts kk tpos) (IteT K a) [e, it] e (fun i h => (∃ old, IsEnum h e it ((i : Nat) : Int) old) ∧ h.IsTupleIter it a i ∧ e ≠ it ∧ a ≠ it ∧ a ≠ e) where
  mem := by simp
  obj := fun i h st b hb => by
    obtain ⟨⟨old, he⟩, ⟨o, ho, hc, hd⟩, _⟩ := st
    rcases List.mem_cons.mp hb with z | z
    · rw [z]; exact ⟨_, he, fun v q => nomatch q⟩
    · rw [List.mem_singleton.mp z]; exact ⟨o, ho, fun v q => by rw [hd] at q; cases q⟩
  keep := fun i h h' st k => ⟨⟨st.1.choose, k e (by simp) _ st.1.choose_spec⟩, st.2.1.at fun o q => k it (by simp) o q, st.2.2⟩
  item := by
    intro X hP hw hK hc i pins s σ H E I hf st hg; subst hP hw hK
    obtain ⟨⟨old, he⟩, hit, hne, hai, hae⟩ := st
    obtain ⟨xs, x, hq, hx⟩ := hg
    obtain ⟨its, rv, p, hz⟩ := I.tuple hq
    obtain ⟨u, hu, ru⟩ := rv.get hx
    have hel : e < s.heap.objs.size := Heap.lt_size he
    have hil : it < s.heap.objs.size := by obtain ⟨_, q, _⟩ := hit; exact Heap.lt_size q
    have hlen : i < its.toArray.size := by rw [List.size_toArray]; exact (List.getElem?_eq_some_iff.mp hu).1
    refine wpAny_pyNext_enum_itemD (Draws.tuple (A := X.A.in1) (show X.A.in1.handled = none from I.ok.hd hc) it a hai its.toArray) he ⟨hit, p⟩ hlen hne (fun z => ?_) fun v h' tk hv ho st' hT hsz hk => ?_
    · rcases List.mem_cons.mp z with z | z
      · exact hne z
      · exact hae (List.mem_singleton.mp z).symm
    obtain rfl : u = v := by
      have h1 : its[i]? = some v := by simpa using hv
      rw [hu] at h1
      exact Option.some.inj h1
    refine ⟨_, rfl, wpAny_letOwnedTupleGo_enum (s := { s with heap := h', toks := tk + 1 }) ho fun h'' he' sb => ?_⟩
    have hT2 : h''.get? s.heap.objs.size = some { cls := .type "tuple", data := .seq #[.int i tk, u] } := (sb.2 _ (Nat.ne_of_gt hel)).trans hT
    have new : ObjOk X.prog X.w (upd H s.heap.objs.size (.tup [.int (i : Nat), x])) h'' s.heap.objs.size (.tup [.int (i : Nat), x]) := ⟨by show 2 ≤ sizeLine; decide, [.int i tk, u], .cons ⟨_, rfl⟩ (.cons ru .nil), ⟨_, hT2, rfl, _, rfl⟩⟩
    have I1 : Inv X pins σ (upd H s.heap.objs.size (.tup [.int (i : Nat), x])) { s with heap := h'', toks := tk + 1 } :=
      I.turnedNew (ch := [e, it]) (fun b ob hb q => (sb.2 b (fun z => hb (by simp [z]))).trans (hk b ob (fun z => hb (by simp [z])) (fun z => hb (by simp [z])) q)) hf (Nat.le_refl _) new
    refine ⟨.ref s.heap.objs.size, _, I1, rfl, ⟨_, x, rfl, I.hok.fresh (Nat.le_refl _), rfl, fun ys hy => by rw [I.tuple_inj hy hq]; exact hx⟩, ⟨⟨u, ?_⟩, st'.1.at fun o q => (sb.2 it (Ne.symm hne)).trans q, hne, hai, hae⟩, fun b hb => ?_⟩
    · have e1 : ((i + 1 : Nat) : Int) = (i : Int) + 1 := by omega
      rw [e1]; exact he'
    · have hb' : b < s.heap.objs.size := by
        rcases List.mem_cons.mp hb with z | z
        · rw [z]; exact hel
        · rw [List.mem_singleton.mp z]; exact hil
      rw [upd_ne (Nat.ne_of_lt hb')]
      exact (hf b hb).1
  done := by
    intro X hP hw hK hc i pins s σ H E I hf st hg; subst hP hw hK
    obtain ⟨⟨old, he⟩, hit, hne, hai, hae⟩ := st
    obtain ⟨xs, hq, hx⟩ := hg
    obtain ⟨its, rv, p, hz⟩ := I.tuple hq
    obtain ⟨f0, f1, f2, f3, f4, f5⟩ := hf it (by simp)
    have hl := rv.length
    have hT : s.TypeIs (.ref e) "enumerate" := ⟨_, he, rfl⟩
    have hnone : its.toArray[i]? = none := by simp; omega
    unfold pyNext
    refine wpAny_bind (wpAny_attempt (wpAny_callSpecial?_slot (name := Str.ofString "__next__") hT F.slot_enumerate_next (wpAny_call_entry F.slot_enumerate_next hT F.entry_enumerate_next ?_ (F.args_enumerate_next_1 _))))
    show wpAny _ _ (field (.ref e) 2 >>= _) _ _ _; refine wpAny_bind (wpAny_field he rfl (x := .ref it) rfl (wpAny_bind (wpAny_nextOf_tuple_end (show X.A.in1.handled = none from I.ok.hd hc) hit p hnone fun h' x eb hx' => ?_)))
    obtain ⟨o, ho, hcl⟩ := hx'
    refine wpAny_bind (wpAny_isInstance (T := "StopIteration") (b := true) ⟨o, ho, hcl⟩ isSubtype_stop (wpAny_pure ⟨rfl, I.turned (t' := s.toks) (fun b o' hb q => eb b o' hb q) f0 f1 f3 f4 f5⟩))
  self := fun A i s Q E st h => wpAny_pyIter_enum st.1.choose_spec h
/-- enumerate(e), e a list or a tuple -/
def iEnumB (K : PySem.W.Frag) (ta : TA) : TI := fun σ H R => ta σ H fun vs H1 => ∃ a, vs = [.ref a] ∧ ((∃ xs, SqL K H1 a xs ∧ R (Ite K a) H1) ∨ (∃ xs, SqT K H1 a xs ∧ R (IteT K a) H1))
theorem pi_enumB {X : Cx} {e : Expr} {ta : TA} {p pos tpos : Pos} {elts : List Expr} {kk : Nat} (hg : Gl X "enumerate") (hm : X.mg "enumerate" = none) (ha : PA X [e] ta) (hs : starEach [e] X.env = [(false, eval e X.env)] := by rfl) :
    PI X (.Tuple elts kk tpos) (.Call (.Name "enumerate" p) [e] [] pos) (iEnumB X.K ta) := by
  refine ⟨fun pins s σ H R I h => ?_⟩
  refine Call_ (ld_blt I hg hm boot_enumerate (PyProof.Rows.callWith_type1 (thn (ha.run pos pins s σ H _ I h) fun us s1 ⟨vs, H1, I1, r1, q1⟩ => ?_) hs rfl))
  obtain ⟨a, rfl, q1⟩ := q1
  cases r1 with
  | cons r rr =>
    cases rr
    cases r
    have hfp : ∀ b ∈ [s1.heap.objs.size + 1, s1.heap.objs.size], FpOk X pins H1 b := fun b hb => by
      have hle : s1.heap.objs.size ≤ b := by
        rcases List.mem_cons.mp hb with z | z
        · rw [z]; exact Nat.le_add_right _ _
        · rw [List.mem_singleton.mp z]; exact Nat.le_refl _
      exact I1.fpOk hle (I1.hok.fresh hle)
    rcases q1 with ⟨xs, hq, q⟩ | ⟨xs, hq, q⟩
    · obtain ⟨its, rv, p', hz⟩ := I1.list hq
      exact call_enumerate_list p'.isList fun h' he hit hsz hk => wpAny_pyIter_enum he ⟨s1.heap.objs.size + 1, [s1.heap.objs.size + 1, s1.heap.objs.size], _, _, H1, rfl, I1.kept (t' := s1.toks) hk, turn_enum a (s1.heap.objs.size + 1) s1.heap.objs.size, ⟨⟨.none, he⟩, hit, Nat.succ_ne_self _⟩, hfp, q⟩
    · obtain ⟨its, rv, p', hz⟩ := I1.tuple hq
      have ha1 : a < s1.heap.objs.size := by obtain ⟨o, e, _⟩ := p'; exact Heap.lt_size e
      exact call_enumT p' fun h' he hit hk => wpAny_pyIter_enum he ⟨s1.heap.objs.size + 1, [s1.heap.objs.size + 1, s1.heap.objs.size], _, _, H1, rfl, I1.kept (t' := s1.toks) hk, turn_enumT a (s1.heap.objs.size + 1) s1.heap.objs.size, ⟨⟨.none, he⟩, hit, Nat.succ_ne_self _, Nat.ne_of_lt ha1, Nat.ne_of_lt (Nat.lt_succ_of_lt ha1)⟩, hfp, q⟩
end AK
set_option Elab.async false
set_option linter.all false
set_option maxRecDepth 100000
set_option maxHeartbeats 4000000
namespace AK
open PySem PySem.Spec PyProof.Rows L2
/-! ### loops, folded so that simp stops ahead of them -/
def contF (g : TG) (tb : TS) (D : Ends) (σ : L2.St) : It → Hp → Prop := fun J H1 => ∃ W : Nat → Nat → L2.St → Hp → Prop, (∃ m, W 0 m σ H1) ∧ ∀ i m σ H, W i m σ H →
  (J.stop i H ∧ D.nx σ H) ∨ (J.go i H ∧ ∃ N : L2.St → Hp → Prop, (∀ σ' H', N σ' H' → ∃ m', m' < m ∧ W (i + 1) m' σ' H') ∧ ∀ x H', J.yld i H x H' → g x σ H' fun σ2 H2 => tb { D with nx := N, ct := N, bk := D.nx } σ2 H2)
theorem tFor_c {wi : TI} {g : TG} {tb : TS} {D : Ends} {σ : L2.St} {H : Hp} : tFor wi g tb D σ H = wi σ H (contF g tb D σ) := rfl
def contL (g : TG) (tt : TT) (te : TE) (vs : List Nat) (σ : L2.St) (Q : VK) : It → Hp → Prop := fun J H1 => ∀ D, H1 D = none → ∃ W : Nat → Nat → Hp → Prop, (∃ m, W 0 m (upd H1 D (.lst []))) ∧ ∀ i m H, W i m H →
  (J.stop i H ∧ Q (.ref D) H) ∨ (J.go i H ∧ ∃ Nx : Hp → Prop, (∀ H', Nx H' → ∃ m', m' < m ∧ W (i + 1) m' H') ∧ ∀ x H', J.yld i H x H' → g x (wipe σ vs) H' fun σ2 H2 => wipe σ2 vs = wipe σ vs ∧ tt σ2 H2 fun b H3 =>
    if b = true then te σ2 H3 fun y H4 => ∃ acc, H4 D = some (.lst acc) ∧ acc.length < sizeLine ∧ Nx (upd H4 D (.lst (acc ++ [y]))) else Nx H3)
theorem tLc_c {wi : TI} {g : TG} {tt : TT} {te : TE} {vs : List Nat} {σ : L2.St} {H : Hp} {Q : VK} : tLc wi g tt te vs σ H Q = wi σ H (contL g tt te vs σ Q) := rfl
section
variable {g : TG} {tb : TS} {D : Ends} {σ : L2.St} {H : Hp} {K : PySem.W.Frag} {tt : TT} {te : TE} {vs : List Nat} {Q : VK}
theorem forRng {n : Nat} (Pv : Nat → L2.St → Hp → Prop) (h0 : Pv 0 σ H) (hs : ∀ i σ H, i < n → Pv i σ H → g (.int (0 + i)) σ H fun σ2 H2 => tb { D with nx := Pv (i + 1), ct := Pv (i + 1), bk := D.nx } σ2 H2) (hd : ∀ σ H, Pv n σ H → D.nx σ H) :
    contF g tb D σ (Itr 0 n) H := for_range Pv h0 hs hd
theorem forLst {a : Addr} {xs : List V} (Pv : Nat → L2.St → Hp → Prop) (h0 : Pv 0 σ H) (hl : ∀ i σ H, i ≤ xs.length → Pv i σ H → SqL K H a xs) (hs : ∀ i x σ H, xs[i]? = some x → Pv i σ H → g x σ H fun σ2 H2 => tb { D with nx := Pv (i + 1), ct := Pv (i + 1), bk := D.nx } σ2 H2) (hd : ∀ σ H, Pv xs.length σ H → D.nx σ H) :
    contF g tb D σ (Itl K a) H := for_list Pv h0 hl hs hd
theorem forTup {a : Addr} {xs : List V} (Pv : Nat → L2.St → Hp → Prop) (h0 : Pv 0 σ H) (hl : ∀ i σ H, i ≤ xs.length → Pv i σ H → SqT K H a xs) (hs : ∀ i x σ H, xs[i]? = some x → Pv i σ H → g x σ H fun σ2 H2 => tb { D with nx := Pv (i + 1), ct := Pv (i + 1), bk := D.nx } σ2 H2) (hd : ∀ σ H, Pv xs.length σ H → D.nx σ H) :
    contF g tb D σ (Itt K a) H := for_tup Pv h0 hl hs hd
theorem forStr {x : Str} (Pv : Nat → L2.St → Hp → Prop) (h0 : Pv 0 σ H) (hs : ∀ i c σ H, x.cps.toList[i]? = some c → Pv i σ H → g (.str ⟨#[c]⟩) σ H fun σ2 H2 => tb { D with nx := Pv (i + 1), ct := Pv (i + 1), bk := D.nx } σ2 H2) (hd : ∀ σ H, Pv x.cps.toList.length σ H → D.nx σ H) :
    contF g tb D σ (Its x) H := by
  have hz : x.cps.toList.length = x.cps.size := Array.length_toList ..
  refine ⟨fun i m σ H => m = x.cps.size - i ∧ i ≤ x.cps.size ∧ Pv i σ H, ⟨x.cps.size, by simp, Nat.zero_le _, h0⟩, ?_⟩
  rintro i m σ H ⟨rfl, hi, p⟩
  by_cases hlt : i < x.cps.size
  · refine .inr ⟨hlt, Pv (i + 1), fun σ' H' p' => ⟨x.cps.size - (i + 1), by omega, rfl, hlt, p'⟩, fun y H' hy => ?_⟩
    obtain ⟨rfl, c, hc, rfl⟩ := hy
    exact hs i c σ _ (by rw [Array.getElem?_toList]; exact hc) p
  · have e : i = x.cps.size := by omega
    subst e
    exact .inl ⟨Nat.le_refl _, hd σ H (by rw [hz]; exact p)⟩
theorem forEnumL {a : Addr} {xs : List V} (Pv : Nat → L2.St → Hp → Prop) (h0 : Pv 0 σ H) (hl : ∀ i σ H, i ≤ xs.length → Pv i σ H → SqL K H a xs)
    (hs : ∀ i x T σ H, xs[i]? = some x → Pv i σ H → H T = none → g (.ref T) σ (upd H T (.tup [.int (i : Nat), x])) fun σ2 H2 => tb { D with nx := Pv (i + 1), ct := Pv (i + 1), bk := D.nx } σ2 H2) (hd : ∀ σ H, Pv xs.length σ H → D.nx σ H) : contF g tb D σ (Ite K a) H := by
  refine ⟨fun i m σ H => m = xs.length - i ∧ i ≤ xs.length ∧ Pv i σ H, ⟨xs.length, by simp, Nat.zero_le _, h0⟩, ?_⟩
  rintro i m σ H ⟨rfl, hi, p⟩
  have q := hl i σ H hi p
  by_cases hlt : i < xs.length
  · refine .inr ⟨⟨xs, xs[i], q, List.getElem?_eq_getElem hlt⟩, Pv (i + 1), fun σ' H' p' => ⟨xs.length - (i + 1), by omega, rfl, hlt, p'⟩, fun y H' hy => ?_⟩
    obtain ⟨T, x, rfl, hT, rfl, hx⟩ := hy
    exact hs i x T σ H (hx xs q) p hT
  · obtain rfl : i = xs.length := by omega
    exact .inl ⟨⟨xs, q, Nat.le_refl _⟩, hd σ H p⟩
theorem forEnumT {a : Addr} {xs : List V} (Pv : Nat → L2.St → Hp → Prop) (h0 : Pv 0 σ H) (hl : ∀ i σ H, i ≤ xs.length → Pv i σ H → SqT K H a xs)
    (hs : ∀ i x T σ H, xs[i]? = some x → Pv i σ H → H T = none → g (.ref T) σ (upd H T (.tup [.int (i : Nat), x])) fun σ2 H2 => tb { D with nx := Pv (i + 1), ct := Pv (i + 1), bk := D.nx } σ2 H2) (hd : ∀ σ H, Pv xs.length σ H → D.nx σ H) : contF g tb D σ (IteT K a) H := by
  refine ⟨fun i m σ H => m = xs.length - i ∧ i ≤ xs.length ∧ Pv i σ H, ⟨xs.length, by simp, Nat.zero_le _, h0⟩, ?_⟩
  rintro i m σ H ⟨rfl, hi, p⟩
  have q := hl i σ H hi p
  by_cases hlt : i < xs.length
  · refine .inr ⟨⟨xs, xs[i], q, List.getElem?_eq_getElem hlt⟩, Pv (i + 1), fun σ' H' p' => ⟨xs.length - (i + 1), by omega, rfl, hlt, p'⟩, fun y H' hy => ?_⟩
    obtain ⟨T, x, rfl, hT, rfl, hx⟩ := hy
    exact hs i x T σ H (hx xs q) p hT
  · obtain rfl : i = xs.length := by omega
    exact .inl ⟨⟨xs, q, Nat.le_refl _⟩, hd σ H p⟩
theorem lcRng {n : Nat} (Pv : Nat → Addr → Hp → Prop) (h0 : ∀ D, H D = none → Pv 0 D (upd H D (.lst [])))
    (hs : ∀ i D H', H D = none → i < n → Pv i D H' → g (.int (0 + i)) (wipe σ vs) H' fun σ2 H2 => wipe σ2 vs = wipe σ vs ∧ tt σ2 H2 fun b H3 => if b = true then te σ2 H3 fun y H4 => ∃ acc, H4 D = some (.lst acc) ∧ acc.length < sizeLine ∧ Pv (i + 1) D (upd H4 D (.lst (acc ++ [y]))) else Pv (i + 1) D H3)
    (hd : ∀ D H', H D = none → Pv n D H' → Q (.ref D) H') : contL g tt te vs σ Q (Itr 0 n) H := fun D hD => lc_range (fun i H' => Pv i D H') (h0 D hD) (fun i H' hi p => hs i D H' hD hi p) fun H' p => hd D H' hD p
theorem lcLst {a : Addr} {xs : List V} (Pv : Nat → Addr → Hp → Prop) (h0 : ∀ D, H D = none → Pv 0 D (upd H D (.lst []))) (hl : ∀ i D H', H D = none → i ≤ xs.length → Pv i D H' → SqL K H' a xs)
    (hs : ∀ i x D H', H D = none → xs[i]? = some x → Pv i D H' → g x (wipe σ vs) H' fun σ2 H2 => wipe σ2 vs = wipe σ vs ∧ tt σ2 H2 fun b H3 => if b = true then te σ2 H3 fun y H4 => ∃ acc, H4 D = some (.lst acc) ∧ acc.length < sizeLine ∧ Pv (i + 1) D (upd H4 D (.lst (acc ++ [y]))) else Pv (i + 1) D H3)
    (hd : ∀ D H', H D = none → Pv xs.length D H' → Q (.ref D) H') : contL g tt te vs σ Q (Itl K a) H := fun D hD => lc_list (fun i H' => Pv i D H') (h0 D hD) (fun i H' hi p => hl i D H' hD hi p) (fun i x H' hx p => hs i x D H' hD hx p) fun H' p => hd D H' hD p
theorem lcTup {a : Addr} {xs : List V} (Pv : Nat → Addr → Hp → Prop) (h0 : ∀ D, H D = none → Pv 0 D (upd H D (.lst []))) (hl : ∀ i D H', H D = none → i ≤ xs.length → Pv i D H' → SqT K H' a xs)
    (hs : ∀ i x D H', H D = none → xs[i]? = some x → Pv i D H' → g x (wipe σ vs) H' fun σ2 H2 => wipe σ2 vs = wipe σ vs ∧ tt σ2 H2 fun b H3 => if b = true then te σ2 H3 fun y H4 => ∃ acc, H4 D = some (.lst acc) ∧ acc.length < sizeLine ∧ Pv (i + 1) D (upd H4 D (.lst (acc ++ [y]))) else Pv (i + 1) D H3)
    (hd : ∀ D H', H D = none → Pv xs.length D H' → Q (.ref D) H') : contL g tt te vs σ Q (Itt K a) H := fun D hD => lc_tup (fun i H' => Pv i D H') (h0 D hD) (fun i H' hi p => hl i D H' hD hi p) (fun i x H' hx p => hs i x D H' hD hx p) fun H' p => hd D H' hD p
end
/-! ### a list or a tuple: its length, a walk over it -/
section
variable {X : Cx}
def hLenB : List V → Hp → VK → Prop := fun xs H Q => ∃ p ys, xs = [.ref p] ∧ RowAt H p ys ∧ Q (.int ys.length) H
theorem callLenB : CallR X (.builtin "len") hLenB := CallR.imp call_len_seq fun _ _ _ ⟨p, ys, h1, h2, h3⟩ => ⟨p, ys, h1, h2.imp SqL.of SqT.of, h3⟩
def hTupB : List V → Hp → VK → Prop := fun xs H Q => ∃ p ys, xs = [.ref p] ∧ RowAt H p ys ∧ ∀ t H', Same H H' → (H t = none ∨ H t = some (.tup ys)) → H' t = some (.tup ys) → Q (.ref t) H'
theorem callTupB : CallR X (.type "tuple") hTupB := CallR.imp call_tuple_of fun _ H _ ⟨p, ys, h1, h2, h3⟩ => ⟨p, ys, h1, by
  rcases h2 with h2 | h2
  · exact .inl ⟨SqL.of h2, fun l hl => h3 l _ (same_new hl) (.inl hl) upd_same⟩
  · exact .inr ⟨SqT.of h2, h3 p H (Same.refl _) (.inr h2) h2⟩⟩
def hLstB : List V → Hp → VK → Prop := fun xs H Q => ∃ p ys, xs = [.ref p] ∧ RowAt H p ys ∧ ∀ t, H t = none → Q (.ref t) (upd H t (.lst ys))
theorem callLstB : CallR X (.type "list") hLstB := CallR.imp call_list_of fun _ H _ ⟨p, ys, h1, h2, h3⟩ => ⟨p, ys, h1, h2.imp SqL.of SqT.of, h3⟩
def iSeqB (K : PySem.W.Frag) (tl : TE) : TI := fun σ H R => tl σ H fun x H1 => ∃ a, x = .ref a ∧ ((∃ xs, SqL K H1 a xs ∧ R (Itl K a) H1) ∨ (∃ xs, SqT K H1 a xs ∧ R (Itt K a) H1))
theorem pi_seqB {tg l : Expr} {tl : TE} (hl : PE X l tl) : PI X tg l (iSeqB X.K tl) := by
  refine ⟨fun pins s σ H R I h => ?_⟩
  refine thn (hl.run pins s σ H _ I h) fun v s1 ⟨x, H1, I1, r1, a, e, q1⟩ => ?_
  subst e; cases r1
  have hb : ∀ b ∈ [s1.heap.objs.size], FpOk X pins H1 b := fun b hb => by
    rw [List.mem_singleton.mp hb]
    exact I1.fpOk (Nat.le_refl _) (I1.hok.fresh (Nat.le_refl _))
  rcases q1 with ⟨xs, hq, q⟩ | ⟨xs, hq, q⟩
  · obtain ⟨its, rv, p, hz⟩ := I1.list hq
    exact wpAny_pyIter_list p.isList ⟨s1.heap.objs.size, [s1.heap.objs.size], _, _, H1, rfl, I1.kept (t' := s1.toks) fun b o e => Heap.get?_push_of_some _ e, turn_list a _, ⟨_, Heap.get?_push_size _ rfl, rfl, rfl⟩, hb, q⟩
  · obtain ⟨its, rv, p, hz⟩ := I1.tuple hq
    exact wpAny_pyIter_tuple (show s1.heap.IsTuple a its.toArray from p) ⟨s1.heap.objs.size, [s1.heap.objs.size], _, _, H1, rfl, I1.kept (t' := s1.toks) fun b o e => Heap.get?_push_of_some _ e, turn_tuple a _, ⟨_, Heap.get?_push_size _ rfl, rfl, rfl⟩, hb, q⟩
/-- C(e, ..), what is raised wished for at the caller's slots -/
def tMakeS (C : Addr) (sp : Sp) (E : L2.St → XK) (t : TA) : TE := fun σ H Q => t σ H fun vs H1 => ∀ x dx, H1 x = none → H1 dx = none → dx ≠ x → sp (.ref x :: vs) (upd (upd H1 dx (.own x)) x (.ins C dx [])) (fun v H2 => v = .non ∧ Q (.ref x) H2) (E σ)
theorem pe_makeS {CX : CXT} {C f : Addr} {k : Nat} {fd : FuncData} {ps : List Str} {sp : Sp} {E : L2.St → XK} {x : Str} {p pos : Pos} {e : Expr} {es : List Expr} {t : TA} (M : Mk X.K C f) (F : FnOk X.prog X.w X.K X.mg X.base CX k f fd ps sp) (hr : Room (k + 1) X.A) (hg : Gl X x) (hm : X.mg x = some (.ref C)) (hb : Binds X.K fd ps []) (hx : ∀ σ, PassesAt CX X σ (E σ))
    (ha : PA X (e :: es) t) (hdb : (x == ("__debug__" : Str)) = false := by decide) (he : starEach (e :: es) X.env = (false, eval e X.env) :: starEach es X.env := by rfl) (hpl : (backTo pos (starEach es X.env)).any (·.1) = false := by rfl) :
    PE X (.Call (.Name x p) (e :: es) [] pos) (tMakeS C sp E t) := by
  refine ⟨fun pins s σ H Q I h => wpAny_Call_Name_kw (ld_glob I hg hm (PySem.W.callWith_K (h₀ := X.base) I.ok.mod.kin M.kp (thn (ha.run pos pins s σ H _ I h) fun us s1 ⟨vs, H1, I1, r, q⟩ => ⟨I1.kIn, ?_⟩) he hpl) hdb)⟩
  have hq := q (s1.heap.objs.size + 1) s1.heap.objs.size (I1.hok.fresh (Nat.le_succ _)) (I1.hok.fresh (Nat.le_refl _)) (Nat.ne_of_lt (Nat.lt_succ_self _))
  have I2 := Inv.made (C := C) I1
  have r2 : Vals (V.ref (s1.heap.objs.size + 1) :: vs) (Value.ref (s1.heap.objs.size + 1) :: us) := .cons rfl r
  have hl : (Value.ref (s1.heap.objs.size + 1) :: us).length = ps.length := by
    have e := r2.length
    rw [F.len _ _ _ _ hq] at e
    exact e.symm
  have hb2 := hb _ (Value.ref (s1.heap.objs.size + 1) :: us) I2.kIn (by rw [List.append_nil]; exact hl)
  rw [List.append_nil] at hb2
  refine wpAny_call (make_map (f := f) I1.kIn M.makes M.init (beq_iff_eq.mp M.fn) (codeAny_mono (F.run _ X.stack _ _ ⟨Value.ref (s1.heap.objs.size + 1) :: us, []⟩ (Value.ref (s1.heap.objs.size + 1) :: us) _ _ (E σ) (hr.make C us []) (I2.env0.make C us []) hb2 r2 hq) fun r s' hq' => ?_))
  cases r with
  | error er => exact hx σ pins _ _ er s' I2 hq'
  | ok fl =>
    cases fl with
    | ret u =>
      obtain ⟨v, H', I3, rv, ev, q3⟩ := I2.after hq'
      subst ev
      exact ⟨rv, V.ref (s1.heap.objs.size + 1), H', I3, rfl, q3⟩
    | next => exact False.elim hq'
    | brk => exact False.elim hq'
    | cont => exact False.elim hq'
end
end AK
set_option Elab.async false
set_option linter.all false
set_option maxRecDepth 100000
set_option maxHeartbeats 4000000
namespace AK
open PySem PySem.Spec PyProof.Rows L2
/-! ### exceptions -/
/-- what the written part says of an exception class of the program -/
structure ExcA (K : PySem.W.Frag) (C : Addr) : Prop where
  ga : PySem.W.findIn K (.ref C) "__getattribute__" = some (some (.builtin "BaseException.__getattribute__"))
  gg : PySem.W.findIn K (.ref C) "__getattr__" = some none
  ex : PySem.W.subIn K (.ref C) (.type "BaseException") = some true
  hd : PySem.W.hasDictIn K C = true
  hc : PySem.W.findIn K (.ref C) "__class__" = some (some (.builtin "object.__class__"))
  hn : PySem.W.specialIn K (.builtin "object.__class__") "__get__" = some (some (.builtin "getset_descriptor.__get__"))
  ht : PySem.W.takesIn K (.builtin "object.__class__") = some true
  hm : PySem.W.mroIn K C (.type "object") = some true
  ty : PySem.W.typeIn K (.ref C) = some (.type "type")
  kp : PySem.W.keepIn K (.ref C) = true
  su : PySem.W.subIn K (.ref C) (.ref C) = some true
theorem ExcA.excC {K : PySem.W.Frag} {C : Addr} (x : ExcA K C) : ExcC K C := ⟨x.ga, x.gg, x.ex, x.hd, x.hc, x.hn, x.ht, x.hm⟩
theorem ExcA.xf {K : PySem.W.Frag} {C : Addr} (x : ExcA K C) : XfC K C := ⟨x.ga, x.gg, x.ex, x.hd⟩
theorem ExcA.cl {K : PySem.W.Frag} {C : Addr} (x : ExcA K C) : (PySem.W.clsIn K C).isSome = true := by
  have h := x.hd
  unfold PySem.W.hasDictIn at h
  cases q : PySem.W.clsIn K C with
  | none => rw [q] at h; cases h
  | some c => rfl
theorem ExcA.one {K : PySem.W.Frag} {C : Addr} (x : ExcA K C) : PySem.W.exmOne K (.ref C) (.ref C) = some true := by
  unfold PySem.W.exmOne PySem.W.kitCls
  rw [if_pos (by rw [x.ex]; rfl)]
  dsimp only
  rw [if_pos (by rw [x.cl, x.ty]; rfl)]
  exact x.su
theorem ExcA.raises {X : Cx} {C : Addr} (x : ExcA X.K C) : Raises X (.ref C) := raises_own x.ex x.ty
/-- isinstance(e, c) in a suite, e with a dict of its own -/
def rIsD (K : PySem.W.Frag) (D a : Addr) (cls : Value) (d : Option Addr) : List V → Hp → VK → Prop := fun xs H Q => ∃ (c : V) (cv : Value) (b : Bool) (dd : Addr) (fs : List (Str × V)), xs = [.ref a, c] ∧ cls = .ref D ∧ ClsV c cv ∧ PySem.W.kitOne K (.ref D) cv = some b ∧ d = some dd ∧ H dd = some (.xd fs) ∧ Q (.bl b) H
theorem call_isD {X : Cx} {a D : Addr} {oe : Obj} {d : Option Addr} {cls : Value} {pn : List (Addr × Obj)} (C : ExcA X.K D) (hz : Zc cls d oe) (hf : ∃ vs, oe.data = .fields vs) : CallR (X.suite a ((a, oe) :: pn)) (.builtin "isinstance") (rIsD X.K D a cls d) := by
  intro pins s σ H xs us Q I r h
  obtain ⟨c, cv, b, dd, fs, rfl, ec, kc, e, ed, ea, q⟩ := h
  obtain ⟨u1, u2, rfl, r1, r2⟩ := vals2 r
  obtain rfl : u1 = Value.ref a := r1
  have e2 := kc.eq r2
  subst e2
  subst ec
  subst ed
  obtain ⟨ha, _⟩ := I.pin (a, oe) (List.mem_append_left _ List.mem_cons_self)
  obtain ⟨vs, hv⟩ := hf
  have hx : ObjOk X.prog X.w H s.heap dd (.xd fs) := I.hok dd _ ea
  obtain ⟨mA, hns, _⟩ := hx
  obtain ⟨od, ho, _⟩ := lookIn_ns hns
  have J : PySem.W.InstAt s.heap a oe D (some od) := ⟨ha, hz.1, by unfold PySem.W.notCls; rw [hv] <;> rfl, by rw [hz.2]; exact ho⟩
  exact PySem.W.kia_one (PySem.W.kitx_exc C.cl C.ga C.gg C.ex C.hc C.hn C.ht C.hm) I.kIn J e (fun z => nomatch z) fun tk => ⟨.bl b, H, I.tok tk, rfl, q⟩
/-- .. without one -/
def rIsN (K : PySem.W.Frag) (D a : Addr) (cls : Value) (d : Option Addr) : List V → Hp → VK → Prop := fun xs H Q => ∃ (c : V) (cv : Value) (b : Bool), xs = [.ref a, c] ∧ cls = .ref D ∧ d = none ∧ ClsV c cv ∧ PySem.W.kitOne K (.ref D) cv = some b ∧ Q (.bl b) H
theorem call_isN {X : Cx} {a D : Addr} {oe : Obj} {cls : Value} {d : Option Addr} {pn : List (Addr × Obj)} (C : ExcA X.K D) (hz : Zc cls d oe) (hf : ∃ vs, oe.data = .fields vs) :
    CallR (X.suite a ((a, oe) :: pn)) (.builtin "isinstance") (rIsN X.K D a cls d) := by
  intro pins s σ H xs us Q I r h
  obtain ⟨c, cv, b, e0, ec, ed, kc, e, q⟩ := h
  subst ec
  subst ed
  exact call_isE C.excC hz hf pins s σ H xs us Q I r ⟨c, cv, b, e0, fun u ru => kc.eq ru, e, q⟩
end AK
namespace AK
open PySem PySem.Spec PyProof.Rows L2
/-- a def whose code object stands at c -/
structure FunC (K : PySem.W.Frag) (x qual : Str) (st : Stmt) (f : Addr) (fd : FuncData) (c : Addr) : Prop where
  ex : ∃ (oc : Value) (od : Option Addr) (kV doc pm : Value) (an : Option Addr) (ct : Value) (osl : Array (Option Value)),
    fd = PySem.W.fnOf x qual (defArgs st) (defBody st) (defScope st) .none kV doc pm an (.ref c) ct ∧ K.lookup f = some ⟨oc, od, .func fd, osl⟩ ∧ PySem.W.codeIn K (.ref c) qual = true
theorem FunC.okC {P : Program} {w : World} {K : PySem.W.Frag} {mg : Str → Option Value} {base : Heap} {x qual : Str} {st : Stmt} {f c : Addr} {fd : FuncData} {N ps : List Str} {k : Nat} {sp : Sp} (F : FunC K x qual st f fd c) (S : FnScope N ps (defScope st))
    (hlen : ∀ vs H Q E, sp vs H Q E → vs.length = ps.length)
    (body : ∀ (A : Around) (outer : List Env) (s : Shared) (H : Hp) (vs : List V) (Q : VK) (E : XK), Room k (A.deeper (envOfC qual (defScope st) s.heap.objs.size f (.ref c))) → sp vs H Q E →
      ∃ t, PSs (cxOf (L2.CX P w) P w K mg base N qual (defScope st) f (.ref c) A outer s H E) (defBody st) t ∧ t { nx := fun _ H' => Q .non H', rt := Q } (start N vs) H) : FnOk P w K mg base (L2.CX P w) (k + 1) f fd ps sp := by
  obtain ⟨oc, od, kV, doc, pm, an, ct, osl, rfl, lk, hcd⟩ := F.ex
  exact fn_of lk hcd S hlen fun A outer s H vs Q E hr hsp => body A outer s H vs Q E hr hsp
end AK
set_option Elab.async false
set_option linter.all false
set_option maxRecDepth 100000
set_option maxHeartbeats 4000000
namespace AK
open PySem PySem.Spec PyProof.Rows L2
/-! ### texts -/
def tx (l : List Nat) : Str := ⟨l.toArray⟩
abbrev lt (z : Str) : List Nat := z.cps.toList
theorem lt_tx (l : List Nat) : lt (tx l) = l := rfl
theorem tx_lt (z : Str) : tx (lt z) = z := by
  obtain ⟨⟨l⟩⟩ := z
  rfl
theorem len_tx (l : List Nat) : (tx l).length = l.length := rfl
theorem len_lt (z : Str) : (lt z).length = z.length := by
  obtain ⟨⟨l⟩⟩ := z
  rfl
theorem tx_inj {l m : List Nat} (h : tx l = tx m) : l = m := by
  have e := congrArg lt h
  exact e
theorem cut_take (z : Str) (n : Nat) : cutS z none (some (n : Int)) = tx ((lt z).take n) := by
  unfold cutS tx
  have h0 : HT.sIx z.length 0 none = 0 := rfl
  have h1 : HT.sIx z.length z.length (some (n : Int)) = min n z.length := by
    unfold HT.sIx
    simp only
    split <;> omega
  rw [h0, h1, List.drop_zero, Nat.sub_zero]
  congr 2
  rw [← len_lt z]
  by_cases h : n ≤ (lt z).length
  · rw [Nat.min_eq_left h]
  · rw [Nat.min_eq_right (Nat.le_of_not_le h), List.take_of_length_le (Nat.le_refl _), List.take_of_length_le (Nat.le_of_not_le h)]
/-- the letters behind the sign c -/
def after (b : List Nat) (c : Nat) : List Nat := (b.dropWhile (fun x => decide (x ≠ c))).drop 1
/-- ascending, by the letters b -/
def asc : List Nat → List Nat → Bool
  | _, [] => true
  | b, c :: t => decide (c ∈ b) && asc (after b c) t
theorem asc_nil (b : List Nat) : asc b [] = true := by
  unfold asc
  rfl
theorem asc_cons (b : List Nat) (c : Nat) (t : List Nat) : asc b (c :: t) = (decide (c ∈ b) && asc (after b c) t) := by
  rw [asc]
theorem split_at {b : List Nat} {c : Nat} (h : c ∈ b) : ∃ p q, b = p ++ c :: q ∧ c ∉ p ∧ after b c = q := by
  induction b with
  | nil => cases h
  | cons x r ih =>
    by_cases e : x = c
    · subst e
      refine ⟨[], r, rfl, by simp, ?_⟩
      unfold after
      simp
    · have h' : c ∈ r := by
        rcases List.mem_cons.mp h with z | z
        · exact absurd z.symm e
        · exact z
      obtain ⟨p, q, e1, e2, e3⟩ := ih h'
      refine ⟨x :: p, q, by rw [e1]; rfl, ?_, ?_⟩
      · intro z
        rcases List.mem_cons.mp z with z | z
        · exact e z.symm
        · exact e2 z
      · unfold after at e3 ⊢
        rw [List.dropWhile_cons_of_pos (by simpa using e)]
        exact e3
theorem part_after {b : List Nat} {c : Nat} (h : c ∈ b) : (Txt.partition (tx b) (tx [c])).2.2 = tx (after b c) := by
  obtain ⟨p, q, e1, e2, e3⟩ := split_at h
  have e : tx b = tx p ++ tx [c] ++ tx q := by
    rw [e1]
    show tx (p ++ c :: q) = (⟨(p.toArray ++ [c].toArray) ++ q.toArray⟩ : Str)
    unfold tx
    congr 1
    simp
  rw [e, TL.partition_app (s := c) (S := []) rfl (by show c ∉ p; exact e2), e3]
theorem after_len (b : List Nat) (c : Nat) : (after b c).length ≤ b.length := by
  unfold after
  rw [List.length_drop]
  have := (List.dropWhile_sublist (l := b) (fun x => decide (x ≠ c))).length_le
  omega
/-! ### readings that ask H itself -/
section
variable {X : Cx}
def gTupH (n : Nat) (t : TGs) : TG := fun v σ H Q => ∃ a xs, v = .ref a ∧ H a = some (.tup xs) ∧ xs.length = n ∧ t xs σ H Q
theorem pg_tupH {es : List Expr} {k : Nat} {t : TGs} {n : Nat} (hc : X.calm = true) (h : PGs X es t)
    (hn : (assignEach es X.env).length = n := by rfl) (hst : (assignEach es X.env).findIdx? (·.1) = none := by rfl) : PG X (.Tuple es k pos) (gTupH n t) :=
  ⟨fun pins s σ H v u Q I r hw => (pg_tup hc h hn hst).run pins s σ H v u Q I r (by
    obtain ⟨a, xs, e1, e2, e3, e4⟩ := hw
    exact ⟨a, xs, e1, SqT.of e2, e3, e4⟩)⟩
/-- xs[i] of a list or a tuple -/
def hIxB : R2 := fun x y H Q => ∃ p xs i v, x = .ref p ∧ y = .int i ∧ RowAt H p xs ∧ atI xs i = some v ∧ Q v H
theorem ixHB : IxR X hIxB := by
  intro ve se pins s σ H x y v u Q I rx ry ⟨p, xs, i, w, h1, h2, h3, h4, h5⟩
  rcases h3 with h3 | h3
  · exact ixH ve se pins s σ H x y v u Q I rx ry ⟨p, xs, i, w, h1, h2, h3, h4, h5⟩
  · exact ixHT ve se pins s σ H x y v u Q I rx ry ⟨p, xs, i, w, h1, h2, h3, h4, h5⟩
end
theorem free_no {l : List (Str × NameKind)} (h : l.all (fun y => !decide (y.2 = .free)) = true) : ∀ y ∈ l, y.2 = .free → False := fun y hy e => by
  have z := List.all_eq_true.mp h y hy
  rw [e] at z
  simp at z
theorem sizeLe {n : Nat} (h : n ≤ 1000) : n ≤ sizeLine := Nat.le_of_lt (small1000 h)
theorem gen_same {H H' : Hp} {d : Addr} {o : HO} (n : H d = none) (g : upd H d o = H') : Same H H' := by
  rw [← g]
  exact same_new n
theorem gen_at {H H' : Hp} {d : Addr} {o : HO} (g : upd H d o = H') : H' d = some o := by
  rw [← g]
  exact upd_same
end AK
set_option Elab.async false
set_option linter.all false
set_option maxRecDepth 100000
set_option maxHeartbeats 4000000
namespace AK
open PySem PySem.Spec PyProof.Rows L2
theorem fun_of {K : PySem.W.Frag} {x qual : Str} {st : Stmt} {f : Addr} {fd : FuncData} (F : FunD K x qual (defArgs st) (defBody st) (defScope st) [] [] f fd) : Fun K x qual st f fd := by
  obtain ⟨oc, od, dV, kV, doc, pm, an, cdv, ct, osl, e, lk, hc, hd, _⟩ := F.ex
  rcases hd with ⟨_, rfl⟩ | ⟨z, _⟩
  · exact ⟨⟨oc, od, kV, doc, pm, an, cdv, ct, osl, e, lk, hc⟩, F.kp⟩
  · exact absurd rfl z
theorem funC_of {K : PySem.W.Frag} {x qual : Str} {st : Stmt} {p : Str × Option Str} {fd : FuncData} (F : FunD K x qual (defArgs st) (defBody st) (defScope st) [] [] (He.fAd K p) fd) : FunC K x qual st (He.fAd K p) fd (He.cT K p).1 := by
  obtain ⟨oc, od, kV, doc, pm, an, cdv, ct, osl, e, lk, hc⟩ := (fun_of F).ex
  obtain ⟨c, rfl⟩ := He.codeIn_ref hc
  have z : He.codeOf K p = c := He.codeOf_eq lk (by rw [e])
  rw [show (He.cT K p).1 = c from z]
  exact ⟨oc, od, kV, doc, pm, an, ct, osl, e, lk, hc⟩
/-- the facts of an exception class, asked -/
def excB (K : PySem.W.Frag) (C : Addr) : Bool :=
  He.eqO (PySem.W.findIn K (.ref C) "__getattribute__") (some (some (.builtin "BaseException.__getattribute__"))) && (He.eqO (PySem.W.findIn K (.ref C) "__getattr__") (some none) && (decide (PySem.W.subIn K (.ref C) (.type "BaseException") = some true) && (PySem.W.hasDictIn K C &&
  (He.eqO (PySem.W.findIn K (.ref C) "__class__") (some (some (.builtin "object.__class__"))) && (He.eqO (PySem.W.specialIn K (.builtin "object.__class__") "__get__") (some (some (.builtin "getset_descriptor.__get__"))) && (decide (PySem.W.takesIn K (.builtin "object.__class__") = some true) &&
  (decide (PySem.W.mroIn K C (.type "object") = some true) && (decide (PySem.W.typeIn K (.ref C) = some (.type "type")) && (PySem.W.keepIn K (.ref C) && decide (PySem.W.subIn K (.ref C) (.ref C) = some true))))))))))
theorem excB_ok {K : PySem.W.Frag} {C : Addr} (h : excB K C = true) : ExcA K C := by
  obtain ⟨h1, h⟩ := He.ba h
  obtain ⟨h2, h⟩ := He.ba h
  obtain ⟨h3, h⟩ := He.ba h
  obtain ⟨h4, h⟩ := He.ba h
  obtain ⟨h5, h⟩ := He.ba h
  obtain ⟨h6, h⟩ := He.ba h
  obtain ⟨h7, h⟩ := He.ba h
  obtain ⟨h8, h⟩ := He.ba h
  obtain ⟨h9, h⟩ := He.ba h
  obtain ⟨h10, h11⟩ := He.ba h
  exact ⟨He.eqO_ok h1, He.eqO_ok h2, of_decide_eq_true h3, h4, He.eqO_ok h5, He.eqO_ok h6, of_decide_eq_true h7, of_decide_eq_true h8, of_decide_eq_true h9, h10, of_decide_eq_true h11⟩
/-- a class over ValueError with an __init__ of its own -/
def ownB (C : Addr) : Obj → Bool
  | ⟨.type t, _, .cls cd, sl⟩ => decide (t = "type") && (match cd.mro, sl.toList with
    | .ref D :: bm, [_, _, _, _, some (.builtin n), _] => decide (D = C) && (decide (n = "ValueError.__new__") && (!cd.hasDel && (cd.hasDict && PySem.HandSPX.refsVE bm)))
    | _, _ => false)
  | _ => false
theorem ownB_ok {C : Addr} : ∀ {o : Obj}, ownB C o = true → ∃ nm q N bs bm sn sub ab col dd k0 k1 k2 k3 k5, o = excClassObj nm q C N bs bm true sn sub ab col dd k0 k1 k2 k3 k5 "ValueError.__new__" ∧ PySem.HandSPX.refsVE bm = true := by
  intro o h
  unfold ownB at h
  split at h
  · rename_i t dd cd sl
    obtain ⟨h0, h⟩ := He.ba h
    have h0 := of_decide_eq_true h0
    subst h0
    split at h
    · rename_i D bm k0 k1 k2 k3 n k5 hm hs
      try obtain ⟨_, h⟩ := He.ba h
      obtain ⟨h1, h⟩ := He.ba h
      obtain ⟨h2, h⟩ := He.ba h
      obtain ⟨h3, h⟩ := He.ba h
      obtain ⟨h4, h5⟩ := He.ba h
      have h1 := of_decide_eq_true h1
      have h2 := of_decide_eq_true h2
      subst h1 h2
      obtain ⟨nm, bs, mro, ns, qn, hd, sn, sub, ab, col, del⟩ := cd
      dsimp only at hm h3 h4
      subst hm
      have hdel : del = false := by
        cases del with
        | false => rfl
        | true => cases h3
      subst hdel
      have hhd : hd = true := h4
      subst hhd
      have hsl : sl = #[k0, k1, k2, k3, some (.builtin "ValueError.__new__"), k5] := by
        obtain ⟨l⟩ := sl
        simp only at hs
        rw [hs]
      subst hsl
      exact ⟨nm, qn, ns, bs, bm, sn, sub, ab, col, dd, k0, k1, k2, k3, k5, rfl, h5⟩
    · first | (cases h) | (obtain ⟨_, h⟩ := He.ba h; cases h)
  · cases h
def oexB (K : PySem.W.Frag) (C : Addr) : Bool := (match K.lookup C with
  | some o => ownB C o
  | none => false) && He.eqO (PySem.W.findIn K (.ref C) "__setattr__") (some (some (.builtin "object.__setattr__")))
theorem oexB_ok {K : PySem.W.Frag} {C : Addr} (h : oexB K C = true) (x : ExcA K C) : OexC K C := by
  obtain ⟨h1, h2⟩ := He.ba h
  cases e : K.lookup C with
  | none =>
    rw [e] at h1
    cases h1
  | some o =>
    rw [e] at h1
    obtain ⟨nm, q, N, bs, bm, sn, sub, ab, col, dd, k0, k1, k2, k3, k5, rfl, hb⟩ := ownB_ok h1
    exact ⟨⟨nm, q, N, bs, bm, sn, sub, ab, col, dd, k0, k1, k2, k3, k5, e, hb⟩, He.eqO_ok h2, x.ex, x.ty, x.kp⟩
end AK
set_option Elab.async false
set_option linter.all false
namespace AK
/-! ### what parities span, in numbers -/
def Top (r k : Nat) : Prop := r.testBit k = true ∧ ∀ j, k < j → r.testBit j = false
theorem top_ex (r : Nat) (h : r ≠ 0) : ∃ k, Top r k := by
  induction r using Nat.strongRecOn with
  | ind r ih =>
    by_cases h2 : r / 2 = 0
    · have e : r = 1 := by omega
      subst e
      refine ⟨0, rfl, fun j hj => ?_⟩
      obtain ⟨j, rfl⟩ : ∃ i, j = i + 1 := ⟨j - 1, by omega⟩
      rw [Nat.testBit_succ, show 1 / 2 = 0 from rfl, Nat.zero_testBit]
    · obtain ⟨k, h3, h4⟩ := ih (r / 2) (by omega) h2
      refine ⟨k + 1, by rw [Nat.testBit_succ]; exact h3, fun j hj => ?_⟩
      obtain ⟨j, rfl⟩ : ∃ i, j = i + 1 := ⟨j - 1, by omega⟩
      rw [Nat.testBit_succ]
      exact h4 j (by omega)
theorem xor_self_r (x r : Nat) : (x ^^^ r) ^^^ r = x := by rw [Nat.xor_assoc, Nat.xor_self, Nat.xor_zero]
theorem lt_bit : ∀ (i x y : Nat), x.testBit i = false → y.testBit i = true → (∀ j, i < j → x.testBit j = y.testBit j) → x < y
  | 0, x, y, h1, h2, h => by
    have e : x / 2 = y / 2 := Nat.eq_of_testBit_eq fun j => by
      rw [← Nat.testBit_succ, ← Nat.testBit_succ]
      exact h _ (by omega)
    rw [Nat.testBit_zero] at h1 h2
    have h1 : ¬ x % 2 = 1 := of_decide_eq_false h1
    have h2 : y % 2 = 1 := of_decide_eq_true h2
    omega
  | i + 1, x, y, h1, h2, h => by
    rw [Nat.testBit_succ] at h1 h2
    have z := lt_bit i (x / 2) (y / 2) h1 h2 fun j hj => by
      rw [← Nat.testBit_succ, ← Nat.testBit_succ]
      exact h _ (by omega)
    omega
def cl (r m : Nat) : Nat := if m ^^^ r < m then m ^^^ r else m
theorem cl_top {r k : Nat} (t : Top r k) (m : Nat) : cl r m = if m.testBit k = true then m ^^^ r else m := by
  unfold cl
  by_cases h : m.testBit k = true
  · rw [if_pos h, if_pos]
    refine lt_bit k _ _ ?_ h fun j hj => ?_
    · rw [Nat.testBit_xor, h, t.1]; rfl
    · rw [Nat.testBit_xor, t.2 j hj, Bool.xor_false]
  · rw [if_neg h, if_neg]
    have h' : m.testBit k = false := by simpa using h
    have z : m < m ^^^ r := by
      refine lt_bit k _ _ h' ?_ fun j hj => ?_
      · rw [Nat.testBit_xor, h', t.1]; rfl
      · rw [Nat.testBit_xor, t.2 j hj, Bool.xor_false]
    omega
theorem cl_or (r m : Nat) : cl r m = m ∨ cl r m = m ^^^ r := by
  unfold cl
  split
  · exact .inr rfl
  · exact .inl rfl
def rem : List Nat → Nat → Nat
  | [], m => m
  | r :: R, m => rem R (cl r m)
def S : List Nat → Nat → Prop
  | [], x => x = 0
  | r :: R, x => S R x ∨ S R (x ^^^ r)
def good : List Nat → Prop
  | [] => True
  | r :: R => ∃ k, Top r k ∧ (∀ q ∈ R, q.testBit k = false) ∧ good R
def clean : List Nat → Nat → Prop
  | [], _ => True
  | r :: R, x => (∀ k, Top r k → x.testBit k = false) ∧ clean R x
theorem rem_keep : ∀ (R : List Nat) (m k : Nat), (∀ q ∈ R, q.testBit k = false) → (rem R m).testBit k = m.testBit k
  | [], _, _, _ => rfl
  | r :: R, m, k, h => by
    have z := rem_keep R (cl r m) k fun q hq => h q (List.mem_cons_of_mem _ hq)
    rw [show rem (r :: R) m = rem R (cl r m) from rfl, z]
    rcases cl_or r m with e | e
    · rw [e]
    · rw [e, Nat.testBit_xor, h r List.mem_cons_self, Bool.xor_false]
theorem S_zero : ∀ R, S R 0
  | [] => rfl
  | _ :: R => .inl (S_zero R)
theorem S_xor : ∀ (R : List Nat) (x y : Nat), S R x → S R y → S R (x ^^^ y)
  | [], x, y, hx, hy => by
    have hx : x = 0 := hx
    have hy : y = 0 := hy
    subst hx; subst hy; rfl
  | r :: R, x, y, hx, hy => by
    rcases hx with hx | hx <;> rcases hy with hy | hy
    · exact .inl (S_xor R x y hx hy)
    · refine .inr ?_
      rw [Nat.xor_assoc]
      exact S_xor R _ _ hx hy
    · refine .inr ?_
      rw [Nat.xor_assoc, Nat.xor_comm y r, ← Nat.xor_assoc]
      exact S_xor R _ _ hx hy
    · refine .inl ?_
      have z := S_xor R _ _ hx hy
      rw [show x ^^^ r ^^^ (y ^^^ r) = x ^^^ y from by rw [Nat.xor_comm y r, ← Nat.xor_assoc, xor_self_r]] at z
      exact z
theorem S_mem : ∀ (R : List Nat) (m : Nat), m ∈ R → S R m
  | r :: R, m, h => by
    rcases List.mem_cons.mp h with e | h
    · refine .inr ?_
      rw [e, Nat.xor_self]
      exact S_zero R
    · exact .inl (S_mem R m h)
theorem S_sub {R T : List Nat} : (∀ m ∈ R, S T m) → ∀ x, S R x → S T x := by
  induction R with
  | nil =>
    intro _ x hx
    rw [show x = 0 from hx]
    exact S_zero T
  | cons r R ih =>
    intro h x hx
    have ih := ih fun m hm => h m (List.mem_cons_of_mem _ hm)
    rcases hx with hx | hx
    · exact ih x hx
    · have z := S_xor T _ _ (ih _ hx) (h r List.mem_cons_self)
      rw [xor_self_r] at z
      exact z
theorem rem_S : ∀ (R : List Nat) (m : Nat), S R (m ^^^ rem R m)
  | [], m => by show m ^^^ m = 0; exact Nat.xor_self m
  | r :: R, m => by
    have z := rem_S R (cl r m)
    rw [show rem (r :: R) m = rem R (cl r m) from rfl]
    rcases cl_or r m with e | e
    · rw [e] at z ⊢
      exact .inl z
    · refine .inr ?_
      rw [e] at z ⊢
      rw [show m ^^^ rem R (m ^^^ r) ^^^ r = m ^^^ r ^^^ rem R (m ^^^ r) from by rw [Nat.xor_assoc, Nat.xor_comm (rem R (m ^^^ r)) r, ← Nat.xor_assoc]]
      exact z
theorem clean_rem : ∀ (R : List Nat) (m : Nat), good R → clean R (rem R m)
  | [], _, _ => trivial
  | r :: R, m, ⟨k, t, hk, g⟩ => by
    refine ⟨fun j tj => ?_, clean_rem R _ g⟩
    have ej : j = k := by
      rcases Nat.lt_trichotomy j k with h | h | h
      · have := tj.2 k h
        rw [t.1] at this
        exact absurd this (by decide)
      · exact h
      · have := t.2 j h
        rw [tj.1] at this
        exact absurd this (by decide)
    subst ej
    rw [show rem (r :: R) m = rem R (cl r m) from rfl, rem_keep R _ _ hk, cl_top t]
    split
    · rename_i h
      rw [Nat.testBit_xor, h, t.1]; rfl
    · rename_i h
      simpa using h
theorem S_bit : ∀ (R : List Nat) (k x : Nat), (∀ q ∈ R, q.testBit k = false) → S R x → x.testBit k = false
  | [], k, x, _, hx => by
    rw [show x = 0 from hx, Nat.zero_testBit]
  | r :: R, k, x, h, hx => by
    have h' : ∀ q ∈ R, q.testBit k = false := fun q hq => h q (List.mem_cons_of_mem _ hq)
    rcases hx with hx | hx
    · exact S_bit R k x h' hx
    · have z := S_bit R k _ h' hx
      rw [Nat.testBit_xor, h r List.mem_cons_self, Bool.xor_false] at z
      exact z
theorem S_clean : ∀ (R : List Nat) (x : Nat), good R → S R x → clean R x → x = 0
  | [], _, _, h, _ => h
  | r :: R, x, ⟨k, t, hk, g⟩, hx, hc => by
    rcases hx with hx | hx
    · exact S_clean R x g hx hc.2
    · have z := S_bit R k _ hk hx
      rw [Nat.testBit_xor, hc.1 k t, t.1] at z
      exact absurd z (by decide)
theorem rem_zero {R : List Nat} (g : good R) (m : Nat) : rem R m = 0 ↔ S R m := by
  constructor
  · intro e
    have z := rem_S R m
    rw [e, Nat.xor_zero] at z
    exact z
  · intro h
    refine S_clean R _ g ?_ (clean_rem R m g)
    have z := S_xor R _ _ h (rem_S R m)
    rw [← Nat.xor_assoc, Nat.xor_self, Nat.zero_xor] at z
    exact z
theorem S_snoc : ∀ (R : List Nat) (r x : Nat), S (R ++ [r]) x ↔ S R x ∨ S R (x ^^^ r)
  | [], r, x => Iff.rfl
  | q :: R, r, x => by
    show S (R ++ [r]) x ∨ S (R ++ [r]) (x ^^^ q) ↔ (S R x ∨ S R (x ^^^ q)) ∨ (S R (x ^^^ r) ∨ S R (x ^^^ r ^^^ q))
    rw [S_snoc R r x, S_snoc R r (x ^^^ q), show x ^^^ q ^^^ r = x ^^^ r ^^^ q from by rw [Nat.xor_assoc, Nat.xor_comm q r, ← Nat.xor_assoc]]
    constructor
    · rintro ((h | h) | (h | h))
      · exact .inl (.inl h)
      · exact .inr (.inl h)
      · exact .inl (.inr h)
      · exact .inr (.inr h)
    · rintro ((h | h) | (h | h))
      · exact .inl (.inl h)
      · exact .inr (.inl h)
      · exact .inl (.inr h)
      · exact .inr (.inr h)
theorem good_snoc : ∀ (R : List Nat) (r : Nat), good R → clean R r → r ≠ 0 → good (R ++ [r])
  | [], r, _, _, h => by
    obtain ⟨k, t⟩ := top_ex r h
    exact ⟨k, t, fun q hq => (List.not_mem_nil hq).elim, trivial⟩
  | q :: R, r, ⟨k, t, hk, g⟩, hc, h => by
    refine ⟨k, t, fun p hp => ?_, good_snoc R r g hc.2 h⟩
    rcases List.mem_append.mp hp with hp | hp
    · exact hk p hp
    · rw [List.mem_singleton.mp hp]
      exact hc.1 k t
/-- one message more -/
def sp (R : List Nat) (m : Nat) : List Nat := if rem R m = 0 then R else R ++ [rem R m]
theorem good_sp {R : List Nat} (g : good R) (m : Nat) : good (sp R m) := by
  unfold sp
  split
  · exact g
  · rename_i h
    exact good_snoc R _ g (clean_rem R m g) h
theorem S_sp {R : List Nat} (g : good R) (m x : Nat) : S (sp R m) x ↔ S R x ∨ S R (x ^^^ m) := by
  unfold sp
  split
  · rename_i h
    have hm := (rem_zero g m).mp h
    constructor
    · exact .inl
    · rintro (h | h)
      · exact h
      · have z := S_xor R _ _ h hm
        rw [xor_self_r] at z
        exact z
  · rw [S_snoc]
    have e : ∀ a b c : Nat, a ^^^ b ^^^ (c ^^^ b) = a ^^^ c := fun a b c => by rw [Nat.xor_comm c b, ← Nat.xor_assoc, xor_self_r]
    constructor
    · rintro (h | h)
      · exact .inl h
      · refine .inr ?_
        have z := S_xor R _ _ h (rem_S R m)
        rw [e] at z
        exact z
    · rintro (h | h)
      · exact .inl h
      · refine .inr ?_
        have z := S_xor R _ _ h (rem_S R m)
        rw [show x ^^^ m ^^^ (m ^^^ rem R m) = x ^^^ rem R m from by rw [← Nat.xor_assoc, xor_self_r]] at z
        exact z
def spn (ms R : List Nat) : List Nat := ms.foldl sp R
theorem good_spn : ∀ (ms R : List Nat), good R → good (spn ms R)
  | [], _, g => g
  | m :: ms, R, g => good_spn ms _ (good_sp g m)
theorem S_app : ∀ (A B : List Nat) (x : Nat), S (A ++ B) x ↔ ∃ y, S A y ∧ S B (x ^^^ y)
  | [], B, x => by
    constructor
    · intro h
      exact ⟨0, rfl, by rw [Nat.xor_zero]; exact h⟩
    · rintro ⟨y, e, h⟩
      rw [show y = 0 from e, Nat.xor_zero] at h
      exact h
  | a :: A, B, x => by
    show S (A ++ B) x ∨ S (A ++ B) (x ^^^ a) ↔ _
    rw [S_app A B x, S_app A B (x ^^^ a)]
    constructor
    · rintro (⟨y, h1, h2⟩ | ⟨y, h1, h2⟩)
      · exact ⟨y, .inl h1, h2⟩
      · refine ⟨y ^^^ a, .inr (by rw [xor_self_r]; exact h1), ?_⟩
        rw [Nat.xor_comm y a, ← Nat.xor_assoc]
        exact h2
    · rintro ⟨y, h1 | h1, h2⟩
      · exact .inl ⟨y, h1, h2⟩
      · refine .inr ⟨y ^^^ a, h1, ?_⟩
        rw [show x ^^^ a ^^^ (y ^^^ a) = x ^^^ y from by rw [Nat.xor_comm y a, ← Nat.xor_assoc, xor_self_r]]
        exact h2
theorem S_comm (A B : List Nat) (x : Nat) : S (A ++ B) x ↔ S (B ++ A) x := by
  rw [S_app, S_app]
  constructor
  · rintro ⟨y, h1, h2⟩
    exact ⟨x ^^^ y, h2, by rw [← Nat.xor_assoc, Nat.xor_self, Nat.zero_xor]; exact h1⟩
  · rintro ⟨y, h1, h2⟩
    exact ⟨x ^^^ y, h2, by rw [← Nat.xor_assoc, Nat.xor_self, Nat.zero_xor]; exact h1⟩
theorem S_left {A : List Nat} (B : List Nat) {x : Nat} (h : S A x) : S (A ++ B) x := (S_app A B x).mpr ⟨x, h, by rw [Nat.xor_self]; exact S_zero B⟩
theorem S_right (A : List Nat) {B : List Nat} {x : Nat} (h : S B x) : S (A ++ B) x := (S_comm A B x).mpr (S_left A h)
theorem S_spn : ∀ (ms R : List Nat) (x : Nat), good R → (S (spn ms R) x ↔ S (R ++ ms) x)
  | [], R, x, _ => by rw [List.append_nil]; exact Iff.rfl
  | m :: ms, R, x, g => by
    show S (spn ms (sp R m)) x ↔ _
    rw [S_spn ms _ x (good_sp g m), S_app, S_app]
    constructor
    · rintro ⟨y, h1, h2⟩
      rcases (S_sp g m y).mp h1 with h | h
      · exact ⟨y, h, .inl h2⟩
      · refine ⟨y ^^^ m, h, .inr ?_⟩
        rw [show x ^^^ (y ^^^ m) ^^^ m = x ^^^ y from by rw [← Nat.xor_assoc, xor_self_r]]
        exact h2
    · rintro ⟨y, h1, h2 | h2⟩
      · exact ⟨y, (S_sp g m y).mpr (.inl h1), h2⟩
      · refine ⟨y ^^^ m, (S_sp g m _).mpr (.inr (by rw [xor_self_r]; exact h1)), ?_⟩
        rw [← Nat.xor_assoc]
        exact h2
theorem S_spn0 (ms : List Nat) (x : Nat) : S (spn ms []) x ↔ S ms x := S_spn ms [] x trivial
/-! ### all sums, as a list -/
def dstep (F : List Nat) (m : Nat) : List Nat := if m ∈ F then F else F ++ F.map (· ^^^ m)
def der (ms : List Nat) : List Nat := ms.foldl dstep [0]
structure Rep (R F : List Nat) : Prop where
  g : good R
  m : ∀ x, x ∈ F ↔ S R x
  n : F.Nodup
  l : F.length = 2 ^ R.length
theorem rep0 : Rep [] [0] := ⟨trivial, fun x => by simp [S], by simp, rfl⟩
theorem rep_step {R F : List Nat} (h : Rep R F) (m : Nat) : Rep (sp R m) (dstep F m) := by
  refine ⟨good_sp h.g m, fun x => ?_, ?_, ?_⟩
  · rw [S_sp h.g, ← h.m, ← h.m]
    unfold dstep
    split
    · rename_i hm
      constructor
      · exact .inl
      · rintro (h1 | h1)
        · exact h1
        · rw [h.m] at h1 hm ⊢
          have z := S_xor R _ _ h1 hm
          rw [xor_self_r] at z
          exact z
    · rw [List.mem_append, List.mem_map]
      constructor
      · rintro (h1 | ⟨y, h1, rfl⟩)
        · exact .inl h1
        · exact .inr (by rw [xor_self_r]; exact h1)
      · rintro (h1 | h1)
        · exact .inl h1
        · exact .inr ⟨_, h1, xor_self_r x m⟩
  · unfold dstep
    split
    · exact h.n
    · rename_i hm
      refine List.nodup_append.mpr ⟨h.n, ?_, ?_⟩
      · refine List.pairwise_map.mpr (h.n.imp fun {a b} hab e => hab ?_)
        have z := congrArg (· ^^^ m) e
        simp only [xor_self_r] at z
        exact z
      · rintro a ha b hb rfl
        obtain ⟨y, hy, e⟩ := List.mem_map.mp hb
        refine hm ((h.m m).mpr ?_)
        have z := S_xor R _ _ ((h.m y).mp hy) ((h.m a).mp ha)
        rw [← e, ← Nat.xor_assoc, Nat.xor_self, Nat.zero_xor] at z
        exact z
  · unfold dstep sp
    by_cases hm : m ∈ F
    · rw [if_pos hm, if_pos ((rem_zero h.g m).mpr ((h.m m).mp hm))]
      exact h.l
    · rw [if_neg hm, if_neg fun e => hm ((h.m m).mpr ((rem_zero h.g m).mp e)), List.length_append, List.length_map, List.length_append, h.l, List.length_singleton, Nat.pow_succ]
      omega
theorem rep_fold : ∀ (ms : List Nat) {R F : List Nat}, Rep R F → Rep (spn ms R) (ms.foldl dstep F)
  | [], _, _, h => h
  | m :: ms, _, _, h => rep_fold ms (rep_step h m)
theorem rep (ms : List Nat) : Rep (spn ms []) (der ms) := rep_fold ms rep0
theorem der_mem (ms : List Nat) (x : Nat) : x ∈ der ms ↔ S ms x := ((rep ms).m x).trans (S_spn0 ms x)
/-! ### how many -/
theorem nodup_le : ∀ {F G : List Nat}, F.Nodup → (∀ x ∈ F, x ∈ G) → F.length ≤ G.length
  | [], G, _, _ => Nat.zero_le _
  | x :: F, G, n, h => by
    have hx := h x List.mem_cons_self
    have n' := List.nodup_cons.mp n
    have z := nodup_le (G := G.erase x) n'.2 fun y hy => by
      refine (List.mem_erase_of_ne (show y ≠ x from fun e => n'.1 (e ▸ hy))).mpr (h y (List.mem_cons_of_mem _ hy))
    rw [List.length_erase_of_mem hx] at z
    have p := List.length_pos_of_mem hx
    simp only [List.length_cons]
    omega
theorem nodup_all {F G : List Nat} (n : F.Nodup) (h : ∀ x ∈ F, x ∈ G) (l : G.length ≤ F.length) : ∀ x ∈ G, x ∈ F := by
  intro x hx
  by_cases hf : x ∈ F
  · exact hf
  · have z := nodup_le (F := x :: F) (G := G) (List.nodup_cons.mpr ⟨hf, n⟩) fun y hy => by
      rcases List.mem_cons.mp hy with e | hy
      · rw [e]
        exact hx
      · exact h y hy
    simp only [List.length_cons] at z
    omega
theorem rep_le {R F T G : List Nat} (h : Rep R F) (k : Rep T G) (s : ∀ x, S R x → S T x) : R.length ≤ T.length := by
  have z := nodup_le h.n fun x hx => (k.m x).mpr (s x ((h.m x).mp hx))
  rw [h.l, k.l] at z
  exact (Nat.pow_le_pow_iff_right (by decide)).mp z
theorem rep_eq {R F T G : List Nat} (h : Rep R F) (k : Rep T G) (s : ∀ x, S R x → S T x) (e : T.length ≤ R.length) : ∀ x, S T x → S R x := by
  intro x hx
  refine (h.m x).mp (nodup_all h.n (fun x hx => (k.m x).mpr (s x ((h.m x).mp hx))) ?_ x ((k.m x).mpr hx))
  rw [h.l, k.l]
  exact Nat.pow_le_pow_right (by decide) e
def rank (ms : List Nat) : Nat := (spn ms []).length
theorem rank_le {A B : List Nat} (s : ∀ x, S A x → S B x) : rank A ≤ rank B := rep_le (rep A) (rep B) fun x h => (S_spn0 B x).mpr (s x ((S_spn0 A x).mp h))
theorem rank_eq {A B : List Nat} (s : ∀ x, S A x → S B x) (e : rank B ≤ rank A) : ∀ x, S B x → S A x := fun x h =>
  (S_spn0 A x).mp (rep_eq (rep A) (rep B) (fun x h => (S_spn0 B x).mpr (s x ((S_spn0 A x).mp h))) e x ((S_spn0 B x).mpr h))
theorem rank_comm (A B : List Nat) : rank (A ++ B) = rank (B ++ A) := Nat.le_antisymm (rank_le fun x h => (S_comm A B x).mp h) (rank_le fun x h => (S_comm A B x).mpr h)
theorem spn_app (A B R : List Nat) : spn (A ++ B) R = spn B (spn A R) := List.foldl_append
theorem spn_le : ∀ (B C D : List Nat), good C → good D → (∀ x, S C x → S D x) → (spn B D).length + C.length ≤ (spn B C).length + D.length
  | [], C, D, _, _, _ => by show D.length + C.length ≤ C.length + D.length; omega
  | m :: B, C, D, gc, gd, s => by
    have ih := spn_le B (sp C m) (sp D m) (good_sp gc m) (good_sp gd m) fun x h => by
      rw [S_sp gd]
      rcases (S_sp gc m x).mp h with h | h
      · exact .inl (s _ h)
      · exact .inr (s _ h)
    show (spn B (sp D m)).length + _ ≤ (spn B (sp C m)).length + _
    have e : (sp D m).length + C.length ≤ (sp C m).length + D.length := by
      unfold sp
      by_cases h : rem C m = 0
      · have h2 : rem D m = 0 := (rem_zero gd m).mpr (s m ((rem_zero gc m).mp h))
        rw [if_pos h, if_pos h2]
        omega
      · rw [if_neg h]
        split
        · rw [List.length_append]; omega
        · rw [List.length_append, List.length_append, List.length_singleton, List.length_singleton]; omega
    omega
theorem rank_add (A B : List Nat) : rank (A ++ B) ≤ rank A + rank B := by
  have z := spn_le B [] (spn A []) trivial (good_spn A [] trivial) fun x h => by
    rw [show x = 0 from h]
    exact S_zero _
  unfold rank
  rw [spn_app]
  simp only [List.length_nil] at z
  omega
theorem spn_len : ∀ (ms R : List Nat), (spn ms R).length ≤ R.length + ms.length
  | [], R => by show R.length ≤ R.length + 0; omega
  | m :: ms, R => by
    have z := spn_len ms (sp R m)
    show (spn ms (sp R m)).length ≤ _
    have e : (sp R m).length ≤ R.length + 1 := by
      unfold sp
      split
      · omega
      · rw [List.length_append, List.length_singleton]; omega
    simp only [List.length_cons]
    omega
theorem spn_ge : ∀ (ms R : List Nat), R.length ≤ (spn ms R).length
  | [], R => Nat.le_refl _
  | m :: ms, R => by
    have z := spn_ge ms (sp R m)
    show _ ≤ (spn ms (sp R m)).length
    have e : R.length ≤ (sp R m).length := by
      unfold sp
      split
      · omega
      · rw [List.length_append]; omega
    omega
theorem rank_len (ms : List Nat) : rank ms ≤ ms.length := by
  have z := spn_len ms []
  unfold rank
  simp only [List.length_nil] at z
  omega
/-! ### the basis -/
def bas : List Nat → List Nat → Nat → List Nat
  | [], _, _ => []
  | m :: ms, R, i => if rem R m = 0 then bas ms R (i + 1) else i :: bas ms (R ++ [rem R m]) (i + 1)
def cho : List Nat → List Nat → List Nat
  | [], _ => []
  | m :: ms, R => if rem R m = 0 then cho ms R else m :: cho ms (R ++ [rem R m])
theorem bas_len : ∀ (ms R : List Nat) (i : Nat), (bas ms R i).length = (cho ms R).length
  | [], _, _ => rfl
  | m :: ms, R, i => by
    unfold bas cho
    split
    · exact bas_len ms _ _
    · rw [List.length_cons, List.length_cons, bas_len ms]
theorem cho_len : ∀ (ms R : List Nat), (cho ms R).length + R.length = (spn ms R).length
  | [], R => by show 0 + R.length = R.length; omega
  | m :: ms, R => by
    have z := cho_len ms (sp R m)
    show _ = (spn ms (sp R m)).length
    unfold cho
    unfold sp at z ⊢
    split
    · rename_i h
      rw [if_pos h] at z
      exact z
    · rename_i h
      rw [if_neg h] at z
      rw [← z, List.length_append, List.length_cons, List.length_singleton]
      omega
theorem cho_spn : ∀ (ms R : List Nat), spn (cho ms R) R = spn ms R
  | [], R => rfl
  | m :: ms, R => by
    show _ = spn ms (sp R m)
    unfold cho
    split
    · rename_i h
      rw [cho_spn ms R]
      unfold sp
      rw [if_pos h]
    · rename_i h
      show spn (cho ms _) (sp R m) = _
      have e : sp R m = R ++ [rem R m] := if_neg h
      rw [e]
      exact cho_spn ms _
theorem bas_mem : ∀ (ms R : List Nat) (i k : Nat), k ∈ bas ms R i → i ≤ k ∧ k < i + ms.length
  | [], _, _, k, h => (List.not_mem_nil h).elim
  | m :: ms, R, i, k, h => by
    unfold bas at h
    simp only [List.length_cons]
    split at h
    · have z := bas_mem ms _ _ k h
      omega
    · rcases List.mem_cons.mp h with e | h
      · omega
      · have z := bas_mem ms _ _ k h
        omega
theorem bas_all : ∀ (ms R : List Nat) (i : Nat), (∀ k, i ≤ k → k < i + ms.length → k ∈ bas ms R i) → (bas ms R i).length = ms.length
  | [], _, _, _ => rfl
  | m :: ms, R, i, h => by
    have h0 := h i (Nat.le_refl _) (by simp only [List.length_cons]; omega)
    unfold bas at h h0 ⊢
    split at h0
    · have z := bas_mem ms _ _ i h0
      omega
    · rename_i hr
      rw [if_neg hr] at h ⊢
      rw [List.length_cons, List.length_cons, bas_all ms _ (i + 1) fun k h1 h2 => ?_]
      rcases List.mem_cons.mp (h k (by omega) (by simp only [List.length_cons]; omega)) with e | h
      · omega
      · exact h
theorem bas_full : ∀ (ms R : List Nat) (i : Nat), (bas ms R i).length = ms.length → ∀ k, i ≤ k → k < i + ms.length → k ∈ bas ms R i
  | [], _, i, _, k, h1, h2 => by simp only [List.length_nil] at h2; omega
  | m :: ms, R, i, h, k, h1, h2 => by
    unfold bas at h ⊢
    simp only [List.length_cons] at h h2
    split
    · rename_i hr
      rw [if_pos hr, bas_len] at h
      have z := cho_len ms R
      have y := spn_len ms R
      omega
    · rename_i hr
      rw [if_neg hr, List.length_cons] at h
      by_cases e : k = i
      · rw [e]
        exact List.mem_cons_self
      · exact List.mem_cons_of_mem _ (bas_full ms _ (i + 1) (by omega) k (by omega) (by omega))
/-- the messages at the basis -/
theorem bas_cho : ∀ (ms R pre : List Nat), (bas ms R pre.length).map (fun k => (pre ++ ms)[k]?) = (cho ms R).map some
  | [], _, _ => rfl
  | m :: ms, R, pre => by
    have ih : ∀ T, (bas ms T (pre.length + 1)).map (fun k => (pre ++ m :: ms)[k]?) = (cho ms T).map some := fun T => by
      have z := bas_cho ms T (pre ++ [m])
      rw [List.length_append, List.length_singleton, List.append_assoc, List.singleton_append] at z
      exact z
    unfold bas cho
    split
    · exact ih _
    · rw [List.map_cons, List.map_cons, ih, List.getElem?_append_right (Nat.le_refl _), Nat.sub_self]
      rfl
/-- what can be derived from all the others -/
def oth (ms : List Nat) (i : Nat) : List Nat := ms.take i ++ ms.drop (i + 1)
def rid (ms : List Nat) (i : Nat) : Bool := decide (rem (spn (oth ms i) []) (ms.getD i 0) = 0)
def redu (ms : List Nat) : List Nat := (List.range ms.length).filter fun i => !decide (i ∈ (bas ms [] 0).filter fun k => !rid ms k)
theorem cho_rank (ms : List Nat) : (cho ms []).length = rank ms := by
  have z := cho_len ms []
  simp only [List.length_nil] at z
  exact z
theorem rank_cho (ms : List Nat) : rank (cho ms []) = (cho ms []).length := by
  unfold rank
  rw [cho_spn, cho_rank]
  rfl
theorem S_cho (ms : List Nat) (x : Nat) : S (cho ms []) x ↔ S ms x := by
  rw [← S_spn0, ← S_spn0 ms, cho_spn]
theorem oth_S {ms : List Nat} {i : Nat} (hi : i < ms.length) (h : S (oth ms i) (ms.getD i 0)) (x : Nat) (hx : S ms x) : S (oth ms i) x := by
  refine S_sub (fun m hm => ?_) x hx
  rw [← List.take_append_drop i ms, List.drop_eq_getElem_cons hi] at hm
  rcases List.mem_append.mp hm with hm | hm
  · exact S_left _ (S_mem _ _ hm)
  · rcases List.mem_cons.mp hm with e | hm
    · rw [List.getD_eq_getElem?_getD, List.getElem?_eq_getElem hi] at h
      rw [e]
      exact h
    · exact S_right _ (S_mem _ _ hm)
theorem redu_free {ms : List Nat} (h : rank ms = ms.length) : redu ms = [] := by
  refine List.filter_eq_nil_iff.mpr fun i hi => ?_
  have hi' := List.mem_range.mp hi
  have hb : i ∈ bas ms [] 0 := bas_full ms [] 0 (by rw [bas_len, cho_rank, h]) i (Nat.zero_le _) (by omega)
  have hr : rid ms i = false := by
    unfold rid
    refine decide_eq_false fun e => ?_
    have h1 := (S_spn0 _ _).mp ((rem_zero (good_spn (oth ms i) [] trivial) _).mp e)
    have h2 := rank_le (oth_S hi' h1)
    have h3 := rank_len (oth ms i)
    unfold oth at h3 h2
    rw [List.length_append, List.length_take, List.length_drop] at h3
    omega
  rw [decide_eq_true (List.mem_filter.mpr ⟨hb, by rw [hr]; rfl⟩)]
  decide
theorem redu_nil {ms : List Nat} (h : redu ms = []) : ms.length = rank ms := by
  have z := List.filter_eq_nil_iff.mp h
  rw [← cho_rank, ← bas_len ms [] 0]
  refine (bas_all ms [] 0 fun k _ hk => ?_).symm
  have y := z k (List.mem_range.mpr (by omega))
  have y : k ∈ (bas ms [] 0).filter fun k => !rid ms k := by
    simp only [Bool.not_eq_true', decide_eq_false_iff_not, Decidable.not_not] at y
    exact y
  exact (List.mem_filter.mp y).1
/-- is_equivalent -/
theorem equiv (A B : List Nat) : (rank A = rank B ∧ rank B = (spn (spn B []) (spn A [])).length) ↔ ∀ x, S A x ↔ S B x := by
  have hA := rep A
  have hB := rep B
  have hC : Rep (spn (spn B []) (spn A [])) _ := rep_fold (spn B []) (rep A)
  have sC : ∀ x, S (spn (spn B []) (spn A [])) x ↔ S (spn A [] ++ spn B []) x := fun x => S_spn _ _ x hA.g
  constructor
  · rintro ⟨e1, e2⟩ x
    have a := rep_eq hA hC (fun x h => (sC x).mpr (S_left _ h)) (by unfold rank at e1 e2; omega)
    have b := rep_eq hB hC (fun x h => (sC x).mpr (S_right _ h)) (by unfold rank at e1 e2; omega)
    constructor
    · intro h
      exact (S_spn0 B x).mp (b x ((sC x).mpr (S_left _ ((S_spn0 A x).mpr h))))
    · intro h
      exact (S_spn0 A x).mp (a x ((sC x).mpr (S_right _ ((S_spn0 B x).mpr h))))
  · intro h
    have e1 : rank A = rank B := Nat.le_antisymm (rank_le fun x => (h x).mp) (rank_le fun x => (h x).mpr)
    refine ⟨e1, ?_⟩
    have e3 : (spn (spn B []) (spn A [])).length ≤ (spn B []).length := rep_le hC hB fun x hx => by
      obtain ⟨y, h1, h2⟩ := (S_app _ _ _).mp ((sC x).mp hx)
      have h1 := (S_spn0 B y).mpr ((h y).mp ((S_spn0 A y).mp h1))
      have z := S_xor _ _ _ h2 h1
      rw [xor_self_r] at z
      exact z
    have e4 := spn_ge (spn B []) (spn A [])
    unfold rank at e1 ⊢
    omega
theorem der_lt {ms : List Nat} (h : ∀ m ∈ ms, m < 64) : ∀ x ∈ der ms, x < 64 := by
  suffices z : ∀ (ms F : List Nat), (∀ m ∈ ms, m < 64) → (∀ x ∈ F, x < 64) → ∀ x ∈ ms.foldl dstep F, x < 64 from z ms [0] h (by simp)
  intro ms
  induction ms with
  | nil => exact fun F _ hF => hF
  | cons m ms ih =>
    intro F hm hF
    refine ih _ (fun x hx => hm x (List.mem_cons_of_mem _ hx)) fun x hx => ?_
    unfold dstep at hx
    split at hx
    · exact hF x hx
    · rcases List.mem_append.mp hx with hx | hx
      · exact hF x hx
      · obtain ⟨y, hy, rfl⟩ := List.mem_map.mp hx
        exact Nat.xor_lt_two_pow (n := 6) (hF y hy) (hm m List.mem_cons_self)
theorem der_len {ms : List Nat} (h : ∀ m ∈ ms, m < 64) : (der ms).length ≤ 64 := by
  have z := nodup_le (rep ms).n (G := List.range 64) fun x hx => List.mem_range.mpr (der_lt h x hx)
  rw [List.length_range] at z
  exact z
theorem spn_take {ms : List Nat} {i m : Nat} (R : List Nat) (h : ms[i]? = some m) : spn (ms.take (i + 1)) R = sp (spn (ms.take i) R) m := by
  rw [List.take_add_one, h]
  show (List.take i ms ++ [m]).foldl sp R = _
  rw [List.foldl_append]
  rfl
theorem bas_drop {ms : List Nat} {i m : Nat} (R : List Nat) (h : ms[i]? = some m) : bas (ms.drop i) R i = if rem R m = 0 then bas (ms.drop (i + 1)) R (i + 1) else i :: bas (ms.drop (i + 1)) (R ++ [rem R m]) (i + 1) := by
  obtain ⟨hi, e⟩ := List.getElem?_eq_some_iff.mp h
  rw [← e, List.drop_eq_getElem_cons hi]
  rfl
theorem cho_sub : ∀ (ms R : List Nat), ∀ m ∈ cho ms R, m ∈ ms
  | [], _, _, h => h
  | k :: ms, R, m, h => by
    unfold cho at h
    split at h
    · exact List.mem_cons_of_mem _ (cho_sub ms _ m h)
    · rcases List.mem_cons.mp h with e | h
      · rw [e]; exact List.mem_cons_self
      · exact List.mem_cons_of_mem _ (cho_sub ms _ m h)
theorem bas_cho_at {ms : List Nat} {i k : Nat} (h : (bas ms [] 0)[i]? = some k) : ∃ m, (cho ms [])[i]? = some m ∧ ms[k]? = some m := by
  have z := bas_cho ms [] []
  have y := congrArg (·[i]?) z
  simp only [List.getElem?_map] at y
  rw [show (bas ms [] ([] : List Nat).length)[i]? = some k from h] at y
  cases e : (cho ms [])[i]? with
  | none => rw [e] at y; cases y
  | some m => rw [e] at y; exact ⟨m, rfl, Option.some.inj y⟩
end AK
set_option Elab.async false
set_option linter.all false
set_option maxRecDepth 100000
set_option maxHeartbeats 4000000
namespace AK
open PySem PySem.Spec PyProof.Rows L2
theorem lcStr {g : TG} {σ : L2.St} {H : Hp} {tt : TT} {te : TE} {vs : List Nat} {Q : VK} {x : Str} (Pv : Nat → Addr → Hp → Prop) (h0 : ∀ D, H D = none → Pv 0 D (upd H D (.lst [])))
    (hs : ∀ i c D H', H D = none → (lt x)[i]? = some c → Pv i D H' → g (.str (tx [c])) (wipe σ vs) H' fun σ2 H2 => wipe σ2 vs = wipe σ vs ∧ tt σ2 H2 fun b H3 => if b = true then te σ2 H3 fun y H4 => ∃ acc, H4 D = some (.lst acc) ∧ acc.length < sizeLine ∧ Pv (i + 1) D (upd H4 D (.lst (acc ++ [y]))) else Pv (i + 1) D H3)
    (hd : ∀ D H', H D = none → Pv (lt x).length D H' → Q (.ref D) H') : contL g tt te vs σ Q (Its x) H := by
  intro D hD
  have hz : (lt x).length = x.cps.size := Array.length_toList ..
  refine ⟨fun i m H' => m = x.cps.size - i ∧ i ≤ x.cps.size ∧ Pv i D H', ⟨x.cps.size, by simp, Nat.zero_le _, h0 D hD⟩, ?_⟩
  rintro i m H' ⟨rfl, hi, p⟩
  by_cases hlt : i < x.cps.size
  · refine .inr ⟨hlt, fun H' => Pv (i + 1) D H', fun H' p' => ⟨x.cps.size - (i + 1), by omega, rfl, hlt, p'⟩, fun y H2 hy => ?_⟩
    obtain ⟨rfl, c, hc, rfl⟩ := hy
    exact hs i c D _ hD (by show x.cps.toList[i]? = some c; rw [Array.getElem?_toList]; exact hc) p
  · have e : i = x.cps.size := by omega
    subst e
    exact .inl ⟨Nat.le_refl _, hd D H' hD (by rw [hz]; exact p)⟩
/-! ### sorted(xs), texts, any number of them -/
def rSortedSA (K : PySem.W.Frag) : List V → Hp → VK → Prop := fun vs H Q => ∃ (a : Addr) (xs : List Str), vs = [V.ref a] ∧ SqL K H a (xs.map V.str) ∧
  ∀ (ys : List Str) (p : Addr), ys.Perm xs → sortedS ys = true → H p = none → Q (.ref p) (upd H p (.lst (ys.map V.str)))
theorem cr_sortedSA {X : Cx} : CallR X (.builtin "sorted") (rSortedSA X.K) := by
  intro pins s σ H vs us Q I r h
  obtain ⟨a, xs, rfl, hs, q⟩ := h
  obtain ⟨its, rv, hl, hz⟩ := I.list hs
  rw [Vals.ref1 r]
  have hlen0 := rv.length
  have hz' : its.length ≤ sizeLine := by rw [← hlen0]; exact hz
  rw [List.length_map] at hlen0
  refine PyProof.Rows.sorted_strsAny hl.isList rv.strs hz' fun out ys h1 h2 h3 => ?_
  obtain ⟨ep, he'⟩ := PyProof.Rows.sortedAll_at s.heap its out
  have hlen : (ys.map V.str).length ≤ sizeLine := by rw [List.length_map, h2.length_eq, hlen0]; exact hz'
  exact ⟨.ref _, upd H (s.heap.objs.size + 1) (.lst (ys.map V.str)), I.laid (t' := s.toks) (fun _ _ => PyProof.Rows.sortedAll_old) (Nat.le_succ _) ⟨hlen, out.toList, ep, vals_of_strs h1, he'⟩, rfl, q ys _ h2 h3 (I.hok.fresh (Nat.le_succ _))⟩
theorem Same.tr {G H H' : Hp} (a : Same G H) (b : Same H H') : Same G H' := fun x o e => b x o (a x o e)
theorem rowLT {K : PySem.W.Frag} {H : Hp} {p : Addr} {xs : List V} (h : RowAt H p xs) : SqL K H p xs ∨ SqT K H p xs := h.imp SqL.of SqT.of
theorem rowS {H H' : Hp} {p : Addr} {xs : List V} (s : Same H H') (h : RowAt H p xs) : RowAt H' p xs := h.imp (s _ _) (s _ _)
/-- a comprehension over a list or a tuple that H holds itself -/
theorem lcRow {g : TG} {σ : L2.St} {H : Hp} {K : PySem.W.Frag} {tt : TT} {te : TE} {vs : List Nat} {Q : VK} {p : Addr} {xs : List V} (hr : RowAt H p xs) (Pv : Nat → Addr → Hp → Prop) (h0 : ∀ D, H D = none → Pv 0 D (upd H D (.lst []))) (hk : ∀ i D H', H D = none → i ≤ xs.length → Pv i D H' → ∀ o, H p = some o → H' p = some o)
    (hs : ∀ i x D H', H D = none → xs[i]? = some x → Pv i D H' → g x (wipe σ vs) H' fun σ2 H2 => wipe σ2 vs = wipe σ vs ∧ tt σ2 H2 fun b H3 => if b = true then te σ2 H3 fun y H4 => ∃ acc, H4 D = some (.lst acc) ∧ acc.length < sizeLine ∧ Pv (i + 1) D (upd H4 D (.lst (acc ++ [y]))) else Pv (i + 1) D H3)
    (hd : ∀ D H', H D = none → Pv xs.length D H' → Q (.ref D) H') :
    (∃ xs, SqL K H p xs ∧ contL g tt te vs σ Q (Itl K p) H) ∨ ∃ xs, SqT K H p xs ∧ contL g tt te vs σ Q (Itt K p) H := by
  rcases hr with h | h
  · exact .inl ⟨xs, SqL.of h, lcLst (xs := xs) Pv h0 (fun i D H' hD hi z => SqL.of (hk i D H' hD hi z _ h)) hs hd⟩
  · exact .inr ⟨xs, SqT.of h, lcTup (xs := xs) Pv h0 (fun i D H' hD hi z => SqT.of (hk i D H' hD hi z _ h)) hs hd⟩
/-! ### a def with a default -/
theorem FunD.ok0 {P : Program} {w : World} {K : PySem.W.Frag} {mg : Str → Option Value} {base : Heap} {x qual : Str} {params : Arguments} {body : List Stmt} {scope : Scope} {dvs : List V} {kws : List (Str × V)} {f : Addr} {fd : FuncData} {N ps : List Str} {k : Nat} {sp : Sp} (F : FunD K x qual params body scope dvs kws f fd) (S : FnScope N ps scope) (len : ∀ vs H Q E, sp vs H Q E → vs.length = ps.length)
    (hbody : ∀ (cdv : Value) (A : Around) (outer : List Env) (s : Shared) (H : Hp) (vs : List V) (Q : VK) (E : XK), Room k (A.deeper (envOfC qual scope s.heap.objs.size f cdv)) → sp vs H Q E →
      ∃ t, PSs (cxOf CX0 P w K mg base N qual scope f cdv A outer s H E).nox body t ∧ t { nx := fun _ H' => Q .non H', rt := Q } (start N vs) H) : FnOk P w K mg base CX0 (k + 1) f fd ps sp :=
  F.ok S len fun cdv A outer s H vs Q E hr hsp => by
    obtain ⟨t, h, q⟩ := hbody cdv A outer s H vs Q E hr hsp
    exact ⟨t, h.nox, q⟩
theorem def_all {K : PySem.W.Frag} {x qual : Str} {params : Arguments} {body : List Stmt} {scope : Scope} {d : V} {kws : List (Str × V)} {f : Addr} {fd : FuncData} {ps : List Str} (F : FunD K x qual params body scope [d] kws f fd) (n : Nat) (hn : n = ps.length)
    (h : ∀ (T : Addr) (kV doc pm : Value) (an : Option Addr) (cdv ct : Value) (us its : List Value), us.length = n → its.length = [d].length →
      ∃ k, bindArgs (PySem.W.fnOf x qual params body scope (.ref T) kV doc pm an cdv ct) ⟨us, []⟩ = seqItems? (.ref T) >>= k ∧ k (some its.toArray) = pure (ps.zip (us ++ its.drop 1))) : Binds K fd ps [] := by
  obtain ⟨ds, v, b⟩ := FunD.binds1 F n 1 (by simp) (by simpa using hn) h
  cases v
  exact b
/-! ### numbers from 0 on -/
abbrev ni (l : List Nat) : List V := l.map fun n : Nat => V.int (n : Int)
theorem xor_nat (m n : Nat) : Builtin.bitXor (m : Int) (n : Int) = ((m ^^^ n : Nat) : Int) := by
  rw [Bits.bitXor_pp (Int.natCast_nonneg m) (Int.natCast_nonneg n), Int.toNat_natCast, Int.toNat_natCast]
theorem ni_snoc (l : List Nat) (n : Nat) : ni l ++ [V.int (n : Int)] = ni (l ++ [n]) := by simp [ni]
theorem ni_len (l : List Nat) : (ni l).length = l.length := List.length_map _
theorem ni_at {l : List Nat} {i : Nat} {x : V} (h : (ni l)[i]? = some x) : ∃ n, l[i]? = some n ∧ x = V.int (n : Int) := map_at h
theorem drop_at {α : Type} {l : List α} {i : Nat} {x : α} (h : l[i]? = some x) : l.drop i = x :: l.drop (i + 1) := by
  obtain ⟨hi, e⟩ := List.getElem?_eq_some_iff.mp h
  rw [← e]
  exact List.drop_eq_getElem_cons hi
/-! ### parities as texts -/
def pl (m : Nat) : List Nat := ((List.range 8).filter fun k => m.testBit k).map (97 + ·)
def pt (m : Nat) : Str := tx (pl m)
abbrev ps (l : List Nat) : List V := l.map fun m => V.str (pt m)
def A8 : List Nat := lt ("abcdefgh" : Str)
theorem A8_tx : ("abcdefgh" : Str) = tx A8 := (tx_lt _).symm
def plB (m : Nat) : Bool := asc A8 (pl m) && (decide (((pl m).map fun c => 2 ^ (c - 97)).sum = m) && (pl m).all fun c => decide (97 ≤ c) && decide (c ≤ 104))
theorem plB_all : (List.range 256).all plB = true := by decide +kernel
theorem plB_of {m : Nat} (h : m < 256) : asc A8 (pl m) = true ∧ ((pl m).map fun c => 2 ^ (c - 97)).sum = m ∧ ∀ c ∈ pl m, 97 ≤ c ∧ c ≤ 104 := by
  have z := List.all_eq_true.mp plB_all m (List.mem_range.mpr h)
  unfold plB at z
  rw [Bool.and_eq_true, Bool.and_eq_true] at z
  refine ⟨z.1, of_decide_eq_true z.2.1, fun c hc => ?_⟩
  have y := List.all_eq_true.mp z.2.2 c hc
  rw [Bool.and_eq_true] at y
  exact ⟨of_decide_eq_true y.1, of_decide_eq_true y.2⟩
theorem pl_inj {m n : Nat} (hm : m < 256) (hn : n < 256) (h : pl m = pl n) : m = n := by
  rw [← (plB_of hm).2.1, ← (plB_of hn).2.1, h]
theorem pt_inj {m n : Nat} (hm : m < 256) (hn : n < 256) (h : pt m = pt n) : m = n := pl_inj hm hn (tx_inj h)
theorem ix8_all : (List.range 8).all (fun k => decide (Txt.index0 (tx A8) (tx [97 + k]) = some k)) = true := by decide +kernel
theorem ix8 {c : Nat} (h1 : 97 ≤ c) (h2 : c ≤ 104) : Txt.index0 (tx A8) (tx [c]) = some (c - 97) := by
  have z := of_decide_eq_true (List.all_eq_true.mp ix8_all (c - 97) (List.mem_range.mpr (by omega)))
  rw [show 97 + (c - 97) = c from by omega] at z
  exact z
theorem pl_len (m : Nat) : (pl m).length ≤ 8 := by
  unfold pl
  rw [List.length_map]
  exact Nat.le_trans (List.length_filter_le _ _) (by rw [List.length_range]; exact Nat.le_refl _)
theorem ni_pow : ∀ l : List Nat, (l.map fun c => (((2 ^ (c - 97) : Nat)) : Int)).sum = (((l.map fun c => 2 ^ (c - 97)).sum : Nat) : Int)
  | [] => rfl
  | c :: l => by
    rw [List.map_cons, List.map_cons, List.sum_cons, List.sum_cons, ni_pow l, Int.natCast_add]
theorem cutV_take (xs : List V) (n : Nat) : cutV xs none (some (n : Int)) = xs.take n := by
  unfold cutV
  rw [HT.sIx_none, HT.sIx_nat, List.drop_zero, Nat.sub_zero]
  by_cases h : n ≤ xs.length
  · rw [Nat.min_eq_left h]
  · rw [Nat.min_eq_right (Nat.le_of_not_le h), List.take_of_length_le (Nat.le_refl _), List.take_of_length_le (Nat.le_of_not_le h)]
theorem cutV_drop (xs : List V) (n : Nat) : cutV xs (some (n : Int)) none = xs.drop n := by
  unfold cutV
  rw [HT.sIx_none, HT.sIx_nat]
  by_cases h : n ≤ xs.length
  · rw [Nat.min_eq_left h, List.take_of_length_le (by rw [List.length_drop]; exact Nat.le_refl _)]
  · rw [Nat.min_eq_right (Nat.le_of_not_le h), List.drop_of_length_le (Nat.le_refl _), List.drop_of_length_le (Nat.le_of_not_le h), List.take_nil]
theorem flat_ni (l : List Nat) : (ni l).all flatV = true := by
  rw [List.all_map, List.all_eq_true]
  exact fun _ _ => rfl
theorem flat_ps (l : List Nat) : (ps l).all flatV = true := by
  rw [List.all_map, List.all_eq_true]
  exact fun _ _ => rfl
theorem in_ni (n : Nat) : ∀ l : List Nat, inV (V.int (n : Int)) (ni l) = decide (n ∈ l)
  | [] => rfl
  | k :: l => by
    have ih := in_ni n l
    unfold inV at ih ⊢
    rw [show ni (k :: l) = V.int (k : Int) :: ni l from rfl, List.any_cons, ih]
    show (((k : Int) == (n : Int)) || decide (n ∈ l)) = _
    by_cases h : n = k
    · subst h
      simp
    · have : ((k : Int) == (n : Int)) = false := beq_eq_false_iff_ne.mpr (fun z => h (by exact_mod_cast z.symm))
      rw [this]
      simp [h]
theorem in_ps {n : Nat} (hn : n < 256) : ∀ {l : List Nat}, (∀ k ∈ l, k < 256) → inV (V.str (pt n)) (ps l) = decide (n ∈ l)
  | [], _ => rfl
  | k :: l, hl => by
    have ih := in_ps hn (l := l) fun x hx => hl x (List.mem_cons_of_mem _ hx)
    unfold inV at ih ⊢
    rw [show ps (k :: l) = V.str (pt k) :: ps l from rfl, List.any_cons, ih]
    show ((pt k == pt n) || decide (n ∈ l)) = _
    by_cases h : n = k
    · subst h
      simp
    · have : (pt k == pt n) = false := beq_eq_false_iff_ne.mpr (fun z => h (pt_inj (hl k List.mem_cons_self) hn z).symm)
      rw [this]
      simp [h]
theorem int0_eq (n : Nat) : decide (V.int (n : Int) = V.int 0) = decide (n = 0) := by
  by_cases h : n = 0
  · rw [h]
    rfl
  · rw [decide_eq_false h, decide_eq_false (fun z => h (by have := V.int.inj z; exact_mod_cast this))]
/-- an empty tuple of the written part -/
def tup0B (K : PySem.W.Frag) (t : Addr) : Bool := match K.lookup t with
  | some ⟨.type c, _, .seq its _, _⟩ => decide (c = "tuple") && decide (its = #[])
  | _ => false
theorem tup0_ok {K : PySem.W.Frag} {t : Addr} (h : tup0B K t = true) (H : Hp) : SqT K H t [] := by
  unfold tup0B at h
  cases q : K.lookup t with
  | none =>
    rw [q] at h
    cases h
  | some o =>
    obtain ⟨oc, od, dt, osl⟩ := o
    rw [q] at h
    cases oc with
    | type c =>
      cases dt with
      | seq its n =>
        obtain ⟨h1, h2⟩ := He.ba (show (decide (c = "tuple") && decide (its = #[])) = true from h)
        have h2 := of_decide_eq_true h2
        subst h2
        exact .inr ⟨_, #[], n, q, congrArg Value.type (of_decide_eq_true h1), rfl, Nat.zero_le _, .nil⟩
      | _ => cases h
    | _ => cases dt <;> cases h
end AK
set_option Elab.async false
set_option linter.all false
set_option maxRecDepth 100000
set_option maxHeartbeats 4000000
namespace AK
open PySem PySem.Spec PyProof.Rows L2 PySem.Builtin PySem.Builtin.Str
/-! ### how often a sign stands in a text -/
theorem occ_cnt (x : Str) (c : Nat) : ∀ (m k : Nat) (st : Array Nat × Nat), k + m = x.length + 1 → st.snd ≤ k → st.fst.size ≤ k →
    (forIn (List.range' k m) st (StrLaws.occBody x ⟨#[c]⟩ x.length (x.length + 1))).run.fst.size = st.fst.size + ((lt x).drop k).count c
  | 0, k, st, h, h1, h2 => by
    rw [List.drop_of_length_le (by rw [len_lt]; omega)]
    rfl
  | m + 1, k, st, h, h1, h2 => by
    rw [List.range'_succ, List.forIn_cons]
    unfold StrLaws.occBody
    have so := StrLaws.subAt_one x c k
    by_cases hc : (lt x)[k]? = some c
    · obtain ⟨e1, e2⟩ := so.mpr hc
      rw [if_pos ⟨⟨⟨by omega, h1⟩, e1⟩, e2⟩]
      have ih := occ_cnt x c m (k + 1) (st.fst.push k, k + 1) (by omega) (Nat.le_refl _) (by rw [Array.size_push]; omega)
      rw [Array.size_push] at ih
      rw [drop_at hc, List.count_cons_self]
      exact ih.trans (by omega)
    · rw [if_neg fun z => hc (so.mp ⟨z.1.2, z.2⟩)]
      have ih := occ_cnt x c m (k + 1) st (by omega) (by omega) (by omega)
      refine ih.trans ?_
      by_cases hk : k < (lt x).length
      · rw [List.drop_eq_getElem_cons hk, List.count_cons_of_ne]
        intro z
        exact hc (by rw [List.getElem?_eq_getElem hk, z])
      · rw [List.drop_of_length_le (Nat.le_of_not_lt hk), List.drop_of_length_le (by omega)]
theorem cnt_one (x : Str) (c : Nat) : Txt.count x (tx [c]) = ((lt x).count c : Nat) := by
  unfold Txt.count
  rw [StrLaws.occ_eq, Array.length_toList]
  have z := occ_cnt x c (x.length + 1) 0 (#[], 0) (by omega) (Nat.le_refl _) (Nat.le_refl _)
  rw [List.drop_zero] at z
  rw [show tx [c] = (⟨#[c]⟩ : Str) from rfl, Nat.sub_zero]
  exact_mod_cast z.trans (Nat.zero_add _)
def cntB (m : Nat) : Bool := (List.range 8).all fun k => decide ((pl m).count (97 + k) = if m.testBit k then 1 else 0)
theorem cntB_all : (List.range 256).all cntB = true := by decide +kernel
theorem cnt_pl {m k : Nat} (hm : m < 256) (hk : k < 8) : (pl m).count (97 + k) = if m.testBit k then 1 else 0 :=
  of_decide_eq_true (List.all_eq_true.mp (List.all_eq_true.mp cntB_all m (List.mem_range.mpr hm)) k (List.mem_range.mpr hk))
/-! ### a sorted row of texts is the only one -/
theorem sortedS_pw : ∀ (l : List Str), sortedS l = true → l.Pairwise (fun a b => a.cps.toList ≤ b.cps.toList)
  | [], _ => .nil
  | [x], _ => List.pairwise_singleton ..
  | x :: y :: r, h => by
    have h : (!ltCps y.cps.toList x.cps.toList && sortedS (y :: r)) = true := h
    rw [Bool.and_eq_true, ltCps_eq, Bool.not_eq_true', decide_eq_false_iff_not] at h
    have ih := sortedS_pw (y :: r) h.2
    have hxy : x.cps.toList ≤ y.cps.toList := h.1
    refine List.pairwise_cons.mpr ⟨fun z hz => ?_, ih⟩
    rcases List.mem_cons.mp hz with e | hz
    · rw [e]; exact hxy
    · exact List.le_trans hxy ((List.pairwise_cons.mp ih).1 z hz)
theorem sortedS_eq {l m : List Str} (hl : sortedS l = true) (hm : sortedS m = true) (p : l.Perm m) : l = m :=
  List.Perm.eq_of_pairwise (le := fun a b : Str => a.cps.toList ≤ b.cps.toList) (fun a b _ _ h1 h2 => by
    have z := List.le_antisymm h1 h2
    rw [← tx_lt a, ← tx_lt b]
    exact congrArg tx z) (sortedS_pw l hl) (sortedS_pw m hm) p
/-! ### drawn parities -/
def subs : List Nat → List (List Nat)
  | [] => [[]]
  | x :: l => subs l ++ (subs l).map (x :: ·)
theorem mem_subs : ∀ {l m : List Nat}, m.Sublist l → m ∈ subs l
  | [], m, h => by
    rw [List.sublist_nil.mp h]
    simp [subs]
  | x :: l, m, h => by
    cases h with
    | cons _ h => exact List.mem_append_left _ (mem_subs h)
    | cons_cons _ h => exact List.mem_append_right _ (List.mem_map.mpr ⟨_, mem_subs h, rfl⟩)
def six : List Nat := [97, 98, 99, 100, 101, 102]
theorem six_tx : ("abcdef" : Str) = tx six := by decide +kernel
theorem sub6_all : (subs six).all (fun l => (List.range 64).any fun m => decide (l = pl m)) = true := by decide +kernel
theorem sub6 {l : List Nat} (h : l.Sublist six) : ∃ m, m < 64 ∧ l = pl m := by
  obtain ⟨m, hm, e⟩ := List.any_eq_true.mp (List.all_eq_true.mp sub6_all l (mem_subs h))
  exact ⟨m, List.mem_range.mp hm, of_decide_eq_true e⟩
theorem sub6v_all : (List.range 7).all (fun n => (subs (six.take n)).all fun l => (List.range (2 ^ n)).any fun m => decide (l = pl m)) = true := by decide +kernel
theorem sub6v {n : Nat} (hn : n ≤ 6) {l : List Nat} (h : l.Sublist (six.take n)) : ∃ m, m < 2 ^ n ∧ l = pl m := by
  obtain ⟨m, hm, e⟩ := List.any_eq_true.mp (List.all_eq_true.mp (List.all_eq_true.mp sub6v_all n (List.mem_range.mpr (by omega))) l (mem_subs h))
  exact ⟨m, List.mem_range.mp hm, of_decide_eq_true e⟩
theorem pt0 : ("" : Str) = pt 0 := by decide +kernel
theorem xor64 {m n : Nat} (hm : m < 64) (hn : n < 64) : m ^^^ n < 64 := Nat.xor_lt_two_pow (n := 6) hm hn
/-- the letters of a sum -/
theorem pl6_all : (List.range 64).all (fun m => decide (pl m = six.filter fun c => m.testBit (c - 97))) = true := by decide +kernel
theorem pl6 {m : Nat} (h : m < 64) : pl m = six.filter fun c => m.testBit (c - 97) := of_decide_eq_true (List.all_eq_true.mp pl6_all m (List.mem_range.mpr h))
theorem cnt_xor {m n c : Nat} (hm : m < 64) (hn : n < 64) (hc : c ∈ six) : decide (((pl m ++ pl n).count c) % 2 = 1) = (m ^^^ n).testBit (c - 97) := by
  have h8 : 97 ≤ c ∧ c ≤ 102 := by
    have : ∀ c ∈ six, 97 ≤ c ∧ c ≤ 102 := by decide
    exact this c hc
  have e : 97 + (c - 97) = c := by omega
  rw [List.count_append, Nat.testBit_xor, ← e, cnt_pl (by omega) (by omega), cnt_pl (by omega) (by omega), e]
  cases m.testBit (c - 97) <;> cases n.testBit (c - 97) <;> rfl
end AK
set_option Elab.async false
set_option linter.all false
set_option maxRecDepth 100000
set_option maxHeartbeats 4000000
namespace AK
open PySem PySem.Spec PyProof.Rows L2
/-! ### lists of texts, compared -/
theorem dpAll_str {K : PySem.W.Frag} {H : Hp} : ∀ l : List Str, DpAll K H (l.map V.str) (l.map PyData.str)
  | [] => .nil
  | x :: l => .cons (.str x) (dpAll_str l)
theorem dp_strs {K : PySem.W.Frag} {H : Hp} {p : Addr} {l : List Str} (h : SqL K H p (l.map V.str)) : Dp K H (.ref p) (.list (l.map PyData.str)) := .lst h (dpAll_str l)
theorem eqvAll_str : ∀ l m : List Str, PyData.eqvAll (l.map PyData.str) (m.map PyData.str) = decide (l = m)
  | [], [] => rfl
  | [], _ :: _ => by simp [PyData.eqvAll]
  | _ :: _, [] => by simp [PyData.eqvAll]
  | x :: l, y :: m => by
    simp only [List.map_cons, PyData.eqvAll, eqvAll_str l m, PyData.eqv]
    by_cases h : x = y <;> by_cases h2 : l = m <;> simp [h, h2]
theorem eqv_strs (l m : List Str) : PyData.eqv (.list (l.map PyData.str)) (.list (m.map PyData.str)) = decide (l = m) := by
  rw [PyData.eqv]
  exact eqvAll_str l m
theorem canAll_str : ∀ l : List Str, (∀ x ∈ l, PyData.strOk x = true) → PyData.canLayAll0 (l.map PyData.str) = true
  | [], _ => rfl
  | x :: l, h => by
    simp [PyData.canLayAll0, PyData.canLay0, canAll_str l fun y hy => h y (List.mem_cons_of_mem _ hy), h x List.mem_cons_self]
theorem depAll_str : ∀ l : List Str, PyData.depthAll (l.map PyData.str) ≤ 1
  | [] => by simp [PyData.depthAll]
  | x :: l => by
    have := depAll_str l
    simp [PyData.depthAll, PyData.depth]
    omega
theorem strOk_all : (List.range 256).all (fun m => PyData.strOk (pt m)) = true := by decide +kernel
theorem strOk_pt {m : Nat} (h : m < 256) : PyData.strOk (pt m) = true := List.all_eq_true.mp strOk_all m (List.mem_range.mpr h)
theorem shaped_strs {l : List Str} (hs : ∀ x ∈ l, PyData.strOk x = true) (h : l.length ≤ 900) : SeqAt.shaped (.list (l.map PyData.str)) = true := by
  unfold SeqAt.shaped
  rw [Bool.and_eq_true]
  constructor
  · simp [PyData.canLay0, canAll_str l hs]
    try exact sizeLe (by omega)
  · refine decide_eq_true ?_
    have := depAll_str l
    simp [PyData.depth]
    omega
theorem dpAll_int {K : PySem.W.Frag} {H : Hp} : ∀ l : List Nat, DpAll K H (ni l) (l.map fun n : Nat => PyData.int (n : Int))
  | [] => .nil
  | x :: l => .cons (.int x) (dpAll_int l)
theorem dp_tints {K : PySem.W.Frag} {H : Hp} {p : Addr} {l : List Nat} (h : SqT K H p (ni l)) : Dp K H (.ref p) (.tuple (l.map fun n : Nat => PyData.int (n : Int))) := .tup h (dpAll_int l)
theorem eqv_tnil (l : List Nat) : PyData.eqv (.tuple (l.map fun n : Nat => PyData.int (n : Int))) (.tuple (([] : List Nat).map fun n : Nat => PyData.int (n : Int))) = decide (l = []) := by
  rw [PyData.eqv]
  cases l <;> simp [PyData.eqvAll]
theorem canAll_int : ∀ l : List Nat, PyData.canLayAll0 (l.map fun n : Nat => PyData.int (n : Int)) = true
  | [] => rfl
  | x :: l => by
    simp [PyData.canLayAll0, PyData.canLay0, canAll_int l]
theorem depAll_int : ∀ l : List Nat, PyData.depthAll (l.map fun n : Nat => PyData.int (n : Int)) ≤ 1
  | [] => by simp [PyData.depthAll]
  | x :: l => by
    have := depAll_int l
    simp [PyData.depthAll, PyData.depth]
    omega
theorem shaped_tints (l : List Nat) : SeqAt.shaped (.tuple (l.map fun n : Nat => PyData.int (n : Int))) = true := by
  unfold SeqAt.shaped
  rw [Bool.and_eq_true]
  constructor
  · simp [PyData.canLay0, canAll_int l]
  · refine decide_eq_true ?_
    have := depAll_int l
    simp [PyData.depth]
    omega
end AK
set_option Elab.async false
set_option linter.all false
set_option maxRecDepth 100000
set_option maxHeartbeats 8000000
namespace AK
open PySem PySem.Spec PyProof.Rows L2
def topS (i : Nat) : Stmt := PySem.Challenge.pw_allknow_k07_whole_exchange.main.body.getD i (.Pass ⟨0, 0, 0, 0⟩)
abbrev s_is_ascending : Stmt := topS 3
abbrev sc_is_ascending_N : List Str := ["letters", "text", "behind", "letter"]
theorem sc_is_ascending : FnScope sc_is_ascending_N ["letters", "text"] (defScope s_is_ascending) := ⟨rfl, rfl, rfl, by decide +kernel, rfl, by decide +kernel, by decide +kernel⟩
abbrev s_is_parity : Stmt := topS 6
abbrev sc_is_parity_N : List Str := ["text"]
theorem sc_is_parity : FnScope sc_is_parity_N ["text"] (defScope s_is_parity) := ⟨rfl, rfl, rfl, by decide +kernel, rfl, by decide +kernel, by decide +kernel⟩
abbrev s_mask_of : Stmt := topS 7
abbrev sc_mask_of_N : List Str := ["parity", "letter"]
theorem sc_mask_of : FnScope sc_mask_of_N ["parity"] (defScope s_mask_of) := ⟨rfl, rfl, rfl, by decide +kernel, rfl, by decide +kernel, by decide +kernel⟩
abbrev s_remainder : Stmt := topS 8
abbrev sc_remainder_N : List Str := ["span", "mask", "row"]
theorem sc_remainder : FnScope sc_remainder_N ["span", "mask"] (defScope s_remainder) := ⟨rfl, rfl, rfl, by decide +kernel, rfl, by decide +kernel, by decide +kernel⟩
abbrev s_spanned : Stmt := topS 9
abbrev sc_spanned_N : List Str := ["masks", "span", "rows", "mask", "rest"]
theorem sc_spanned : FnScope sc_spanned_N ["masks", "span"] (defScope s_spanned) := ⟨rfl, rfl, rfl, by decide +kernel, rfl, by decide +kernel, by decide +kernel⟩
abbrev s_basis_indices : Stmt := topS 10
abbrev sc_basis_indices_N : List Str := ["masks", "span", "indices", "index", "mask", "rest"]
theorem sc_basis_indices : FnScope sc_basis_indices_N ["masks"] (defScope s_basis_indices) := ⟨rfl, rfl, rfl, by decide +kernel, rfl, by decide +kernel, by decide +kernel⟩
abbrev s_message_rank : Stmt := topS 13
abbrev sc_message_rank_N : List Str := ["messages"]
theorem sc_message_rank : FnScope sc_message_rank_N ["messages"] (defScope s_message_rank) := ⟨rfl, rfl, rfl, by decide +kernel, rfl, by decide +kernel, by decide +kernel⟩
abbrev s_is_derived : Stmt := topS 14
abbrev sc_is_derived_N : List Str := ["messages", "parity", "span"]
theorem sc_is_derived : FnScope sc_is_derived_N ["messages", "parity"] (defScope s_is_derived) := ⟨rfl, rfl, rfl, by decide +kernel, rfl, by decide +kernel, by decide +kernel⟩
abbrev s_basis : Stmt := topS 15
abbrev sc_basis_N : List Str := ["messages"]
theorem sc_basis : FnScope sc_basis_N ["messages"] (defScope s_basis) := ⟨rfl, rfl, rfl, by decide +kernel, rfl, by decide +kernel, by decide +kernel⟩
abbrev s_redundant : Stmt := topS 16
abbrev sc_redundant_N : List Str := ["messages", "masks", "needed", "index"]
theorem sc_redundant : FnScope sc_redundant_N ["messages"] (defScope s_redundant) := ⟨rfl, rfl, rfl, by decide +kernel, rfl, by decide +kernel, by decide +kernel⟩
abbrev s_is_equivalent : Stmt := topS 17
abbrev sc_is_equivalent_N : List Str := ["first", "second", "first_span", "second_span", "both"]
theorem sc_is_equivalent : FnScope sc_is_equivalent_N ["first", "second"] (defScope s_is_equivalent) := ⟨rfl, rfl, rfl, by decide +kernel, rfl, by decide +kernel, by decide +kernel⟩
abbrev s_parity_mask : Stmt := topS 18
abbrev sc_parity_mask_N : List Str := ["text"]
theorem sc_parity_mask : FnScope sc_parity_mask_N ["text"] (defScope s_parity_mask) := ⟨rfl, rfl, rfl, by decide +kernel, rfl, by decide +kernel, by decide +kernel⟩
abbrev s_message_masks : Stmt := topS 19
abbrev sc_message_masks_N : List Str := ["messages", "text"]
theorem sc_message_masks : FnScope sc_message_masks_N ["messages"] (defScope s_message_masks) := ⟨rfl, rfl, rfl, by decide +kernel, rfl, by decide +kernel, by decide +kernel⟩
abbrev s_is_derived_from_others : Stmt := topS 20
abbrev sc_is_derived_from_others_N : List Str := ["masks", "index", "others"]
theorem sc_is_derived_from_others : FnScope sc_is_derived_from_others_N ["masks", "index"] (defScope s_is_derived_from_others) := ⟨rfl, rfl, rfl, by decide +kernel, rfl, by decide +kernel, by decide +kernel⟩
abbrev s_law_pool : Stmt := topS 22
abbrev sc_law_pool_N : List Str := ["script", "cell"]
theorem sc_law_pool : FnScope sc_law_pool_N ["script"] (defScope s_law_pool) := ⟨rfl, rfl, rfl, by decide +kernel, rfl, by decide +kernel, by decide +kernel⟩
abbrev s_law_take : Stmt := topS 23
abbrev sc_law_take_N : List Str := ["pool", "many", "digit", "cell", "mixed"]
theorem sc_law_take : FnScope sc_law_take_N ["pool", "many"] (defScope s_law_take) := ⟨rfl, rfl, rfl, by decide +kernel, rfl, by decide +kernel, by decide +kernel⟩
abbrev s_law_is_integer : Stmt := topS 24
abbrev sc_law_is_integer_N : List Str := ["actual"]
theorem sc_law_is_integer : FnScope sc_law_is_integer_N ["actual"] (defScope s_law_is_integer) := ⟨rfl, rfl, rfl, by decide +kernel, rfl, by decide +kernel, by decide +kernel⟩
abbrev s_law_same : Stmt := topS 25
abbrev sc_law_same_N : List Str := ["actual", "due", "k"]
theorem sc_law_same : FnScope sc_law_same_N ["actual", "due"] (defScope s_law_same) := ⟨rfl, rfl, rfl, by decide +kernel, rfl, by decide +kernel, by decide +kernel⟩
abbrev s_law_pick : Stmt := topS 26
abbrev sc_law_pick_N : List Str := ["pool", "rows"]
theorem sc_law_pick : FnScope sc_law_pick_N ["pool", "rows"] (defScope s_law_pick) := ⟨rfl, rfl, rfl, by decide +kernel, rfl, by decide +kernel, by decide +kernel⟩
abbrev s_law_parity : Stmt := topS 27
abbrev sc_law_parity_N : List Str := ["pool", "variables", "letters", "letter"]
theorem sc_law_parity : FnScope sc_law_parity_N ["pool", "variables"] (defScope s_law_parity) := ⟨rfl, rfl, rfl, by decide +kernel, rfl, by decide +kernel, by decide +kernel⟩
abbrev s_law_sum : Stmt := topS 28
abbrev sc_law_sum_N : List Str := ["texts", "whole", "letter"]
theorem sc_law_sum : FnScope sc_law_sum_N ["texts"] (defScope s_law_sum) := ⟨rfl, rfl, rfl, by decide +kernel, rfl, by decide +kernel, by decide +kernel⟩
abbrev s_law_derived : Stmt := topS 29
abbrev sc_law_derived_N : List Str := ["messages", "found", "message", "one"]
theorem sc_law_derived : FnScope sc_law_derived_N ["messages"] (defScope s_law_derived) := ⟨rfl, rfl, rfl, by decide +kernel, rfl, by decide +kernel, by decide +kernel⟩
abbrev s_law_shaped : Stmt := topS 30
abbrev sc_law_shaped_N : List Str := ["pool", "rows"]
theorem sc_law_shaped : FnScope sc_law_shaped_N ["pool", "rows"] (defScope s_law_shaped) := ⟨rfl, rfl, rfl, by decide +kernel, rfl, by decide +kernel, by decide +kernel⟩
abbrev s_law_second : Stmt := topS 31
abbrev sc_law_second_N : List Str := ["pool", "variables", "first", "kind", "found", "row", "sums", "k"]
theorem sc_law_second : FnScope sc_law_second_N ["pool", "variables", "first"] (defScope s_law_second) := ⟨rfl, rfl, rfl, by decide +kernel, rfl, by decide +kernel, by decide +kernel⟩
abbrev s_law : Stmt := topS 32
abbrev sc_law_N : List Str := ["script", "pool", "variables", "first", "second", "alike", "one", "other", "both", "chosen", "k", "row"]
theorem sc_law : FnScope sc_law_N ["script"] (defScope s_law) := ⟨rfl, rfl, rfl, by decide +kernel, rfl, by decide +kernel, by decide +kernel⟩
structure Ads where
  a_is_ascending : Addr
  d_is_ascending : FuncData
  a_is_parity : Addr
  d_is_parity : FuncData
  a_mask_of : Addr
  d_mask_of : FuncData
  a_remainder : Addr
  d_remainder : FuncData
  a_spanned : Addr
  d_spanned : FuncData
  t_spanned : Addr
  a_basis_indices : Addr
  d_basis_indices : FuncData
  a_message_rank : Addr
  d_message_rank : FuncData
  a_is_derived : Addr
  d_is_derived : FuncData
  a_basis : Addr
  d_basis : FuncData
  a_redundant : Addr
  d_redundant : FuncData
  a_is_equivalent : Addr
  d_is_equivalent : FuncData
  a_parity_mask : Addr
  d_parity_mask : FuncData
  a_message_masks : Addr
  d_message_masks : FuncData
  a_is_derived_from_others : Addr
  d_is_derived_from_others : FuncData
  a_law_pool : Addr
  d_law_pool : FuncData
  a_law_take : Addr
  d_law_take : FuncData
  a_law_is_integer : Addr
  d_law_is_integer : FuncData
  a_law_same : Addr
  d_law_same : FuncData
  a_law_pick : Addr
  d_law_pick : FuncData
  a_law_parity : Addr
  d_law_parity : FuncData
  a_law_sum : Addr
  d_law_sum : FuncData
  a_law_derived : Addr
  d_law_derived : FuncData
  a_law_shaped : Addr
  d_law_shaped : FuncData
  a_law_second : Addr
  d_law_second : FuncData
  a_law : Addr
  d_law : FuncData
  t_PARITY_LETTERS : Tok
structure Txt (K : PySem.W.Frag) (mg : Str → Option Value) (a : Ads) : Prop where
  F_is_ascending : Fun K "is_ascending" "is_ascending" s_is_ascending a.a_is_ascending a.d_is_ascending
  b_is_ascending : Binds K a.d_is_ascending ["letters", "text"] []
  g_is_ascending : mg "is_ascending" = some (.ref a.a_is_ascending)
  F_is_parity : Fun K "is_parity" "is_parity" s_is_parity a.a_is_parity a.d_is_parity
  b_is_parity : Binds K a.d_is_parity ["text"] []
  g_is_parity : mg "is_parity" = some (.ref a.a_is_parity)
  F_mask_of : Fun K "mask_of" "mask_of" s_mask_of a.a_mask_of a.d_mask_of
  b_mask_of : Binds K a.d_mask_of ["parity"] []
  g_mask_of : mg "mask_of" = some (.ref a.a_mask_of)
  F_remainder : Fun K "remainder" "remainder" s_remainder a.a_remainder a.d_remainder
  b_remainder : Binds K a.d_remainder ["span", "mask"] []
  g_remainder : mg "remainder" = some (.ref a.a_remainder)
  F_spanned : FunD K "spanned" "spanned" (defArgs s_spanned) (defBody s_spanned) (defScope s_spanned) [.ref a.t_spanned] [] a.a_spanned a.d_spanned
  b_spanned : Binds K a.d_spanned ["masks", "span"] []
  b1_spanned : ∃ ds, Vals [V.ref a.t_spanned] ds ∧ Binds K a.d_spanned ["masks", "span"] ds
  e_spanned : ∀ H : Hp, SqT K H a.t_spanned []
  k_spanned : PySem.W.keepIn K (.ref a.a_spanned) = true
  g_spanned : mg "spanned" = some (.ref a.a_spanned)
  F_basis_indices : Fun K "basis_indices" "basis_indices" s_basis_indices a.a_basis_indices a.d_basis_indices
  b_basis_indices : Binds K a.d_basis_indices ["masks"] []
  g_basis_indices : mg "basis_indices" = some (.ref a.a_basis_indices)
  F_message_rank : Fun K "message_rank" "message_rank" s_message_rank a.a_message_rank a.d_message_rank
  b_message_rank : Binds K a.d_message_rank ["messages"] []
  g_message_rank : mg "message_rank" = some (.ref a.a_message_rank)
  F_is_derived : Fun K "is_derived" "is_derived" s_is_derived a.a_is_derived a.d_is_derived
  b_is_derived : Binds K a.d_is_derived ["messages", "parity"] []
  g_is_derived : mg "is_derived" = some (.ref a.a_is_derived)
  F_basis : Fun K "basis" "basis" s_basis a.a_basis a.d_basis
  b_basis : Binds K a.d_basis ["messages"] []
  g_basis : mg "basis" = some (.ref a.a_basis)
  F_redundant : Fun K "redundant" "redundant" s_redundant a.a_redundant a.d_redundant
  b_redundant : Binds K a.d_redundant ["messages"] []
  g_redundant : mg "redundant" = some (.ref a.a_redundant)
  F_is_equivalent : Fun K "is_equivalent" "is_equivalent" s_is_equivalent a.a_is_equivalent a.d_is_equivalent
  b_is_equivalent : Binds K a.d_is_equivalent ["first", "second"] []
  g_is_equivalent : mg "is_equivalent" = some (.ref a.a_is_equivalent)
  F_parity_mask : Fun K "parity_mask" "parity_mask" s_parity_mask a.a_parity_mask a.d_parity_mask
  b_parity_mask : Binds K a.d_parity_mask ["text"] []
  g_parity_mask : mg "parity_mask" = some (.ref a.a_parity_mask)
  F_message_masks : Fun K "_message_masks" "_message_masks" s_message_masks a.a_message_masks a.d_message_masks
  b_message_masks : Binds K a.d_message_masks ["messages"] []
  g_message_masks : mg "_message_masks" = some (.ref a.a_message_masks)
  F_is_derived_from_others : Fun K "_is_derived_from_others" "_is_derived_from_others" s_is_derived_from_others a.a_is_derived_from_others a.d_is_derived_from_others
  b_is_derived_from_others : Binds K a.d_is_derived_from_others ["masks", "index"] []
  g_is_derived_from_others : mg "_is_derived_from_others" = some (.ref a.a_is_derived_from_others)
  F_law_pool : Fun K "_law_pool" "_law_pool" s_law_pool a.a_law_pool a.d_law_pool
  b_law_pool : Binds K a.d_law_pool ["script"] []
  g_law_pool : mg "_law_pool" = some (.ref a.a_law_pool)
  F_law_take : Fun K "_law_take" "_law_take" s_law_take a.a_law_take a.d_law_take
  b_law_take : Binds K a.d_law_take ["pool", "many"] []
  g_law_take : mg "_law_take" = some (.ref a.a_law_take)
  F_law_is_integer : Fun K "_law_is_integer" "_law_is_integer" s_law_is_integer a.a_law_is_integer a.d_law_is_integer
  b_law_is_integer : Binds K a.d_law_is_integer ["actual"] []
  g_law_is_integer : mg "_law_is_integer" = some (.ref a.a_law_is_integer)
  F_law_same : Fun K "_law_same" "_law_same" s_law_same a.a_law_same a.d_law_same
  b_law_same : Binds K a.d_law_same ["actual", "due"] []
  g_law_same : mg "_law_same" = some (.ref a.a_law_same)
  F_law_pick : Fun K "_law_pick" "_law_pick" s_law_pick a.a_law_pick a.d_law_pick
  b_law_pick : Binds K a.d_law_pick ["pool", "rows"] []
  g_law_pick : mg "_law_pick" = some (.ref a.a_law_pick)
  F_law_parity : Fun K "_law_parity" "_law_parity" s_law_parity a.a_law_parity a.d_law_parity
  b_law_parity : Binds K a.d_law_parity ["pool", "variables"] []
  g_law_parity : mg "_law_parity" = some (.ref a.a_law_parity)
  F_law_sum : Fun K "_law_sum" "_law_sum" s_law_sum a.a_law_sum a.d_law_sum
  b_law_sum : Binds K a.d_law_sum ["texts"] []
  g_law_sum : mg "_law_sum" = some (.ref a.a_law_sum)
  F_law_derived : Fun K "_law_derived" "_law_derived" s_law_derived a.a_law_derived a.d_law_derived
  b_law_derived : Binds K a.d_law_derived ["messages"] []
  g_law_derived : mg "_law_derived" = some (.ref a.a_law_derived)
  F_law_shaped : Fun K "_law_shaped" "_law_shaped" s_law_shaped a.a_law_shaped a.d_law_shaped
  b_law_shaped : Binds K a.d_law_shaped ["pool", "rows"] []
  g_law_shaped : mg "_law_shaped" = some (.ref a.a_law_shaped)
  F_law_second : Fun K "_law_second" "_law_second" s_law_second a.a_law_second a.d_law_second
  b_law_second : Binds K a.d_law_second ["pool", "variables", "first"] []
  g_law_second : mg "_law_second" = some (.ref a.a_law_second)
  F_law : Fun K "law" "law" s_law a.a_law a.d_law
  b_law : Binds K a.d_law ["script"] []
  B_law : ∀ (s : Shared) (u : Value), BindsTo s a.d_law ⟨[u], []⟩ [("script", u)]
  g_law : mg "law" = some (.ref a.a_law)
  m_PARITY_LETTERS : mg "PARITY_LETTERS" = some (.str "abcdefgh" a.t_PARITY_LETTERS)
  z_len : mg "len" = none
  z_int : mg "int" = none
  z_max : mg "max" = none
  z_min : mg "min" = none
  z_sum : mg "sum" = none
  z_sorted : mg "sorted" = none
  z_range : mg "range" = none
  z_tuple : mg "tuple" = none
  z_list : mg "list" = none
  z_isinstance : mg "isinstance" = none
  z_enumerate : mg "enumerate" = none
  z_all : mg "all" = none
  z_bool : mg "bool" = none
  z_str : mg "str" = none
end AK
set_option Elab.async false
set_option linter.all false
set_option maxRecDepth 100000
set_option maxHeartbeats 4000000
namespace AK
open PySem PySem.Spec PyProof.Rows L2
section
variable {P : Program} {w : World} {K : PySem.W.Frag} {mg : Str → Option Value} {base : Heap} {a : Ads}
def spAsc : Sp := fun vs H Q _ => ∃ (z x : Str), vs = [.str z, .str x] ∧ z.length ≤ 1000 ∧ ∀ H', Same H H' → Q (.bl (asc (lt z) (lt x))) H'
theorem ok_is_ascending (T : Txt K mg a) : FnOk P w K mg base CX0 1 a.a_is_ascending a.d_is_ascending ["letters", "text"] spAsc := by
  refine T.F_is_ascending.ok sc_is_ascending (fun vs H Q E h => ?_) (fun cdv A outer s H vs Q E hr h => ?_)
  · obtain ⟨z, n, rfl, _⟩ := h
    rfl
  · obtain ⟨z, x, rfl, hz, q⟩ := h
    refine ⟨_, (pss_cons (ps_set (i := 2) sc_is_ascending.nd rfl (.inl rfl) (pv 0))
      (pss_cons (ps_for PassesOwn.never rfl (pi_str (pv 1)) (pg_name (i := 3) sc_is_ascending.nd rfl (.inl rfl))
      (pss_cons (ps_if (pt_cmpR op_notIn_sign (pv 3) (pv 2) rfl)
      (pss_one (ps_ret pe_bl))
      pss_nil)
      (pss_one (ps_set (i := 2) sc_is_ascending.nd rfl (.inl rfl) (pe_ix ixHT (pe_partition (pv 2) (pv 3)) pe_int (fun _ _ => rfl))))))
      (pss_one (ps_ret pe_bl)))), ?_⟩
    simp only [tSeq, tAsg, tRet, tRetN, tDrop, tIfS, tNext, tNever, tOp, tUn, tVar, tC, rI0, rI, rU, tTest, tIf, tB, tAnd, tOr, tNot, tAndV, tOrV, tNotV, gName, gSub, gTupH, gCons, gNil, tYes, tCons, tNil, tLst, tTup, tCB, tCall, tMeth, tMake, tFld, sFld, tFor_c, tLc_c, iRng1, iList, iTup, iStr, iSeqB, iEnumB, tM1, tSl, tPart, tNoPart, rSlS, rIxS, tBM, rAppend, tIf, rEq, rNe, scal, hIx, hIxT, hIxB, hSet, hInt, hIntB, hLen, hLenT, hLenB, L2.start, wipe, List.map_cons, List.map_nil, List.set_cons_zero, List.set_cons_succ, List.set_nil, List.length_cons, List.length_nil, List.length_map, List.cons_append, List.nil_append, List.append_nil, List.replicate, List.getElem?_cons_zero, List.getElem?_cons_succ, Option.some.injEq, V.int.injEq, V.bl.injEq, V.ref.injEq, V.str.injEq, List.cons.injEq, exists_eq_left', exists_eq_left, exists_and_left, and_assoc, upd_same, upd_upd, HO.lst.injEq, HO.tup.injEq, atI_0, atI_1, atI_2, atI_3, set_1, set_2, set_3, CDiv, CPow, CMul, List.length_set, Int.reduceToNat, Int.reduceLE, Int.reduceLT, Int.reducePow, Int.reduceNeg, Nat.reduceAdd, Nat.reduceLT, Nat.reduceLeDiff, Nat.reducePow, Nat.zero_add, or_true, true_or, gt_iff_lt, ge_iff_le, and_true, true_and, decide_eq_true_eq, if_true, Bool.false_eq_true, if_false]
    refine forStr (fun i σ H' => ∃ b v, σ = [some (.str z), some (.str x), some (.str (tx b)), v] ∧ Same H H' ∧ asc (lt z) (lt x) = asc b ((lt x).drop i) ∧ b.length ≤ 1000) ⟨lt z, none, by rw [tx_lt], Same.refl _, rfl, by rw [len_lt]; exact hz⟩ ?_ ?_
    · rintro i c σ H' hc ⟨b, v, rfl, hs, ea, hb⟩
      rw [drop_at hc, asc_cons] at ea
      simp only [tSeq, tAsg, tRet, tRetN, tDrop, tIfS, tNext, tNever, tOp, tUn, tVar, tC, rI0, rI, rU, tTest, tIf, tB, tAnd, tOr, tNot, tAndV, tOrV, tNotV, gName, gSub, gTupH, gCons, gNil, tYes, tCons, tNil, tLst, tTup, tCB, tCall, tMeth, tMake, tFld, sFld, tFor_c, tLc_c, iRng1, iList, iTup, iStr, iSeqB, iEnumB, tM1, tSl, tPart, tNoPart, rSlS, rIxS, tBM, rAppend, tIf, rEq, rNe, scal, hIx, hIxT, hIxB, hSet, hInt, hIntB, hLen, hLenT, hLenB, L2.start, wipe, List.map_cons, List.map_nil, List.set_cons_zero, List.set_cons_succ, List.set_nil, List.length_cons, List.length_nil, List.length_map, List.cons_append, List.nil_append, List.append_nil, List.replicate, List.getElem?_cons_zero, List.getElem?_cons_succ, Option.some.injEq, V.int.injEq, V.bl.injEq, V.ref.injEq, V.str.injEq, List.cons.injEq, exists_eq_left', exists_eq_left, exists_and_left, and_assoc, upd_same, upd_upd, HO.lst.injEq, HO.tup.injEq, atI_0, atI_1, atI_2, atI_3, set_1, set_2, set_3, CDiv, CPow, CMul, List.length_set, Int.reduceToNat, Int.reduceLE, Int.reduceLT, Int.reducePow, Int.reduceNeg, Nat.reduceAdd, Nat.reduceLT, Nat.reduceLeDiff, Nat.reducePow, Nat.zero_add, or_true, true_or, gt_iff_lt, ge_iff_le, and_true, true_and, decide_eq_true_eq, if_true, Bool.false_eq_true, if_false]
      refine ⟨c, rfl, ?_⟩
      rw [show (tx b).cps.toList = b from rfl]
      by_cases hm : c ∈ b
      · rw [decide_eq_true hm, Bool.true_and] at ea
        rw [decide_eq_true hm]
        refine iteF ⟨⟨_, rfl⟩, rfl, sizeLe hb, fun p hp => ⟨after b c, part_after hm, fun d o e => ?_, ea, Nat.le_trans (after_len b c) hb⟩⟩
        rw [upd_ne (ne_of_none (hs d o e) hp)]
        exact hs d o e
      · rw [decide_eq_false hm, Bool.false_and] at ea
        rw [decide_eq_false hm]
        refine iteT ?_
        rw [← ea]
        exact q _ hs
    · rintro σ H' ⟨b, v, rfl, hs, ea, hb⟩
      rw [List.drop_of_length_le (Nat.le_refl _), asc_nil] at ea
      have z := q _ hs
      rw [ea] at z
      exact z
def spPar : Sp := fun vs H Q _ => ∃ (x : Str), vs = [.str x] ∧ ∀ H', Same H H' → Q (.bl (asc A8 (lt x))) H'
theorem ok_is_parity (T : Txt K mg a) : FnOk P w K mg base CX0 2 a.a_is_parity a.d_is_parity ["text"] spPar := by
  have G_is_ascending := ok_is_ascending (P := P) (w := w) (base := base) T
  refine T.F_is_parity.ok sc_is_parity (fun vs H Q E h => ?_) (fun cdv A outer s H vs Q E hr h => ?_)
  · obtain ⟨x, rfl, _⟩ := h
    rfl
  · obtain ⟨x, rfl, q⟩ := h
    refine ⟨_, (pss_one (ps_ret (pe_call G_is_ascending (hr.mono (by first | decide | exact Nat.le_refl _ | omega)) (by rfl) T.g_is_ascending T.F_is_ascending.kp T.b_is_ascending .nil pass0 (pa_cons (pe_glob (v := .str _) rfl T.m_PARITY_LETTERS ⟨_, rfl⟩) (pa_cons (pv 0) pa_nil))))), ?_⟩
    simp only [tSeq, tAsg, tRet, tRetN, tDrop, tIfS, tNext, tNever, tOp, tUn, tVar, tC, rI0, rI, rU, tTest, tIf, tB, tAnd, tOr, tNot, tAndV, tOrV, tNotV, gName, gSub, gTupH, gCons, gNil, tYes, tCons, tNil, tLst, tTup, tCB, tCall, tMeth, tMake, tFld, sFld, tFor_c, tLc_c, iRng1, iList, iTup, iStr, iSeqB, iEnumB, tM1, tSl, tPart, tNoPart, rSlS, rIxS, tBM, rAppend, tIf, rEq, rNe, scal, hIx, hIxT, hIxB, hSet, hInt, hIntB, hLen, hLenT, hLenB, L2.start, wipe, List.map_cons, List.map_nil, List.set_cons_zero, List.set_cons_succ, List.set_nil, List.length_cons, List.length_nil, List.length_map, List.cons_append, List.nil_append, List.append_nil, List.replicate, List.getElem?_cons_zero, List.getElem?_cons_succ, Option.some.injEq, V.int.injEq, V.bl.injEq, V.ref.injEq, V.str.injEq, List.cons.injEq, exists_eq_left', exists_eq_left, exists_and_left, and_assoc, upd_same, upd_upd, HO.lst.injEq, HO.tup.injEq, atI_0, atI_1, atI_2, atI_3, set_1, set_2, set_3, CDiv, CPow, CMul, List.length_set, Int.reduceToNat, Int.reduceLE, Int.reduceLT, Int.reducePow, Int.reduceNeg, Nat.reduceAdd, Nat.reduceLT, Nat.reduceLeDiff, Nat.reducePow, Nat.zero_add, or_true, true_or, gt_iff_lt, ge_iff_le, and_true, true_and, decide_eq_true_eq, if_true, Bool.false_eq_true, if_false]
    exact ⟨_, x, rfl, by decide +kernel, fun H' hs => q H' hs⟩
def spMask : Sp := fun vs H Q _ => ∃ (m : Nat), vs = [.str (pt m)] ∧ m < 256 ∧ ∀ H', Same H H' → Q (.int (m : Int)) H'
theorem ok_mask_of (T : Txt K mg a) : FnOk P w K mg base CX0 1 a.a_mask_of a.d_mask_of ["parity"] spMask := by
  refine T.F_mask_of.ok sc_mask_of (fun vs H Q E h => ?_) (fun cdv A outer s H vs Q E hr h => ?_)
  · obtain ⟨m, rfl, _⟩ := h
    rfl
  · obtain ⟨m, rfl, hm, q⟩ := h
    obtain ⟨h1, h2, h3⟩ := plB_of hm
    refine ⟨_, (pss_one (ps_ret (pe_callB (cr_sum rfl) (by rfl) T.z_sum (by decide +kernel) (pa_cons (pe_lc (own := [("letter", 1)]) (g := gName 1) (tt := tYes) (te := tOp (rI CPow fun i j => .int (i * 2 ^ j.toNat)) (tC (.int 1)) (tBMS K "str" (rIndexX (fun _ _ _ _ => False)) (tC (.str "abcdefgh")) (tCons (tVar 1) tNil)))  rfl sc_mask_of.nd (pi_str (pv 0)) (blkOk_by (own := [("letter", 1)]) (N := sc_mask_of_N) (sc := defScope s_mask_of) (by decide +kernel)) (fun _ _ _ _ _ => (pg_name (i := 1) sc_mask_of.nd rfl (.inl rfl))) (fun _ _ _ _ _ => pts_nil) (fun _ _ _ _ _ => by exact (pe_op op_shl pe_int (pe_bmS PySem.F.plainAttrs_str PySem.F.slot_str_index PySem.F.type_str_index (mt_indexX rfl takes0) (pe_glob (v := .str _) rfl T.m_PARITY_LETTERS ⟨_, rfl⟩) (pa_cons (pv 1) pa_nil))))) pa_nil)))), ?_⟩
    simp only [tSeq, tAsg, tRet, tRetN, tDrop, tIfS, tNext, tNever, tOp, tUn, tVar, tC, rI0, rI, rU, tTest, tIf, tB, tAnd, tOr, tNot, tAndV, tOrV, tNotV, gName, gSub, gTupH, gCons, gNil, tYes, tCons, tNil, tLst, tTup, tCB, tCall, tMeth, tMake, tFld, sFld, tFor_c, tLc_c, iRng1, iList, iTup, iStr, iSeqB, iEnumB, tM1, tSl, tPart, tNoPart, rSlS, rIxS, tBM, rAppend, tIf, rEq, rNe, scal, hIx, hIxT, hIxB, hSet, hInt, hIntB, hLen, hLenT, hLenB, L2.start, wipe, List.map_cons, List.map_nil, List.set_cons_zero, List.set_cons_succ, List.set_nil, List.length_cons, List.length_nil, List.length_map, List.cons_append, List.nil_append, List.append_nil, List.replicate, List.getElem?_cons_zero, List.getElem?_cons_succ, Option.some.injEq, V.int.injEq, V.bl.injEq, V.ref.injEq, V.str.injEq, List.cons.injEq, exists_eq_left', exists_eq_left, exists_and_left, and_assoc, upd_same, upd_upd, HO.lst.injEq, HO.tup.injEq, atI_0, atI_1, atI_2, atI_3, set_1, set_2, set_3, CDiv, CPow, CMul, List.length_set, Int.reduceToNat, Int.reduceLE, Int.reduceLT, Int.reducePow, Int.reduceNeg, Nat.reduceAdd, Nat.reduceLT, Nat.reduceLeDiff, Nat.reducePow, Nat.zero_add, or_true, true_or, gt_iff_lt, ge_iff_le, and_true, true_and, decide_eq_true_eq, if_true, Bool.false_eq_true, if_false]
    refine lcStr (fun i D H' => H' D = some (.lst ((((pl m).take i).map fun c => ((2 ^ (c - 97) : Nat) : Int)).map V.int)) ∧ Same H H') (fun D hD => ⟨upd_same, same_new hD⟩) ?_ ?_
    · rintro i c D H' hD hc ⟨eD, s1⟩
      have hc : (pl m)[i]? = some c := hc
      obtain ⟨c1, c2⟩ := h3 c (List.mem_of_getElem? hc)
      refine ⟨rfl, ?_⟩
      simp only [tSeq, tAsg, tRet, tRetN, tDrop, tIfS, tNext, tNever, tOp, tUn, tVar, tC, rI0, rI, rU, tTest, tIf, tB, tAnd, tOr, tNot, tAndV, tOrV, tNotV, gName, gSub, gTupH, gCons, gNil, tYes, tCons, tNil, tLst, tTup, tCB, tCall, tMeth, tMake, tFld, sFld, tFor_c, tLc_c, iRng1, iList, iTup, iStr, iSeqB, iEnumB, tM1, tSl, tPart, tNoPart, rSlS, rIxS, tBM, rAppend, tIf, rEq, rNe, scal, hIx, hIxT, hIxB, hSet, hInt, hIntB, hLen, hLenT, hLenB, L2.start, wipe, List.map_cons, List.map_nil, List.set_cons_zero, List.set_cons_succ, List.set_nil, List.length_cons, List.length_nil, List.length_map, List.cons_append, List.nil_append, List.append_nil, List.replicate, List.getElem?_cons_zero, List.getElem?_cons_succ, Option.some.injEq, V.int.injEq, V.bl.injEq, V.ref.injEq, V.str.injEq, List.cons.injEq, exists_eq_left', exists_eq_left, exists_and_left, and_assoc, upd_same, upd_upd, HO.lst.injEq, HO.tup.injEq, atI_0, atI_1, atI_2, atI_3, set_1, set_2, set_3, CDiv, CPow, CMul, List.length_set, Int.reduceToNat, Int.reduceLE, Int.reduceLT, Int.reducePow, Int.reduceNeg, Nat.reduceAdd, Nat.reduceLT, Nat.reduceLeDiff, Nat.reducePow, Nat.zero_add, or_true, true_or, gt_iff_lt, ge_iff_le, and_true, true_and, decide_eq_true_eq, if_true, Bool.false_eq_true, if_false]
      unfold tBMS rIndexX
      simp only [tSeq, tAsg, tRet, tRetN, tDrop, tIfS, tNext, tNever, tOp, tUn, tVar, tC, rI0, rI, rU, tTest, tIf, tB, tAnd, tOr, tNot, tAndV, tOrV, tNotV, gName, gSub, gTupH, gCons, gNil, tYes, tCons, tNil, tLst, tTup, tCB, tCall, tMeth, tMake, tFld, sFld, tFor_c, tLc_c, iRng1, iList, iTup, iStr, iSeqB, iEnumB, tM1, tSl, tPart, tNoPart, rSlS, rIxS, tBM, rAppend, tIf, rEq, rNe, scal, hIx, hIxT, hIxB, hSet, hInt, hIntB, hLen, hLenT, hLenB, L2.start, wipe, List.map_cons, List.map_nil, List.set_cons_zero, List.set_cons_succ, List.set_nil, List.length_cons, List.length_nil, List.length_map, List.cons_append, List.nil_append, List.append_nil, List.replicate, List.getElem?_cons_zero, List.getElem?_cons_succ, Option.some.injEq, V.int.injEq, V.bl.injEq, V.ref.injEq, V.str.injEq, List.cons.injEq, exists_eq_left', exists_eq_left, exists_and_left, and_assoc, upd_same, upd_upd, HO.lst.injEq, HO.tup.injEq, atI_0, atI_1, atI_2, atI_3, set_1, set_2, set_3, CDiv, CPow, CMul, List.length_set, Int.reduceToNat, Int.reduceLE, Int.reduceLT, Int.reducePow, Int.reduceNeg, Nat.reduceAdd, Nat.reduceLT, Nat.reduceLeDiff, Nat.reducePow, Nat.zero_add, or_true, true_or, gt_iff_lt, ge_iff_le, and_true, true_and, decide_eq_true_eq, if_true, Bool.false_eq_true, if_false]
      have ix := ix8 c1 c2
      refine ⟨rfl, fun k ek => ?_, fun ek => ?_⟩
      · rw [A8_tx, ix] at ek
        cases ek
        refine ⟨Int.natCast_nonneg _, by omega, by decide, _, eD, ?_, ?_, same_out s1 hD⟩
        · rw [List.length_map, List.length_map, List.length_take]
          exact small1000 (by have := pl_len m; omega)
        · rw [take_s hc, List.map_append, List.map_append, Int.toNat_natCast, Int.one_mul]
          rfl
      · rw [A8_tx, ix] at ek
        cases ek
    · rintro D H' hD ⟨eD, s1⟩
      refine ⟨D, _, rfl, SqL.of eD, ?_⟩
      rw [show (lt (pt m)).length = (pl m).length from rfl, List.take_of_length_le (Nat.le_refl _), ni_pow, h2]
      exact q H' s1
def spRem (K : PySem.W.Frag) : Sp := fun vs H Q _ => ∃ (p : Addr) (R : List Nat) (m : Nat), vs = [.ref p, .int (m : Int)] ∧ SqL K H p (ni R) ∧ Q (.int (rem R m : Nat)) H
theorem ok_remainder (T : Txt K mg a) : FnOk P w K mg base CX0 1 a.a_remainder a.d_remainder ["span", "mask"] (spRem K) := by
  refine T.F_remainder.ok sc_remainder (fun vs H Q E h => ?_) (fun cdv A outer s H vs Q E hr h => ?_)
  · obtain ⟨_, _, _, rfl, _⟩ := h
    rfl
  · obtain ⟨p, R, m, rfl, hS, q⟩ := h
    refine ⟨_, (pss_cons (ps_for PassesOwn.never rfl (pi_list (pv 0)) (pg_name (i := 2) sc_remainder.nd rfl (.inl rfl))
      (pss_one (ps_set (i := 1) sc_remainder.nd rfl (.inl rfl) (pe_callB (call_min2 rfl) (by rfl) T.z_min (by decide +kernel) (pa_cons (pv 1) (pa_cons (pe_op op_xor (pv 1) (pv 2)) pa_nil))))))
      (pss_one (ps_ret (pv 1)))), ?_⟩
    simp only [tSeq, tAsg, tRet, tRetN, tDrop, tIfS, tNext, tNever, tOp, tUn, tVar, tC, rI0, rI, rU, tTest, tIf, tB, tAnd, tOr, tNot, tAndV, tOrV, tNotV, gName, gSub, gTupH, gCons, gNil, tYes, tCons, tNil, tLst, tTup, tCB, tCall, tMeth, tMake, tFld, sFld, tFor_c, tLc_c, iRng1, iList, iTup, iStr, iSeqB, iEnumB, tM1, tSl, tPart, tNoPart, rSlS, rIxS, tBM, rAppend, tIf, rEq, rNe, scal, hIx, hIxT, hIxB, hSet, hInt, hIntB, hLen, hLenT, hLenB, L2.start, wipe, List.map_cons, List.map_nil, List.set_cons_zero, List.set_cons_succ, List.set_nil, List.length_cons, List.length_nil, List.length_map, List.cons_append, List.nil_append, List.append_nil, List.replicate, List.getElem?_cons_zero, List.getElem?_cons_succ, Option.some.injEq, V.int.injEq, V.bl.injEq, V.ref.injEq, V.str.injEq, List.cons.injEq, exists_eq_left', exists_eq_left, exists_and_left, and_assoc, upd_same, upd_upd, HO.lst.injEq, HO.tup.injEq, atI_0, atI_1, atI_2, atI_3, set_1, set_2, set_3, CDiv, CPow, CMul, List.length_set, Int.reduceToNat, Int.reduceLE, Int.reduceLT, Int.reducePow, Int.reduceNeg, Nat.reduceAdd, Nat.reduceLT, Nat.reduceLeDiff, Nat.reducePow, Nat.zero_add, or_true, true_or, gt_iff_lt, ge_iff_le, and_true, true_and, decide_eq_true_eq, if_true, Bool.false_eq_true, if_false]
    refine ⟨⟨_, hS⟩, ?_⟩
    refine forLst (xs := ni R) (fun i σ H' => ∃ (n : Nat) (v : Option V), σ = [some (.ref p), some (.int (n : Int)), v] ∧ H' = H ∧ rem R m = rem (R.drop i) n) ⟨m, none, rfl, rfl, rfl⟩ ?_ ?_ ?_
    · rintro i σ H' _ ⟨n, v, rfl, rfl, _⟩
      exact hS
    · rintro i x σ H' hx ⟨n, v, rfl, rfl, e⟩
      obtain ⟨r, hr2, rfl⟩ := ni_at hx
      rw [drop_at hr2] at e
      simp only [tSeq, tAsg, tRet, tRetN, tDrop, tIfS, tNext, tNever, tOp, tUn, tVar, tC, rI0, rI, rU, tTest, tIf, tB, tAnd, tOr, tNot, tAndV, tOrV, tNotV, gName, gSub, gTupH, gCons, gNil, tYes, tCons, tNil, tLst, tTup, tCB, tCall, tMeth, tMake, tFld, sFld, tFor_c, tLc_c, iRng1, iList, iTup, iStr, iSeqB, iEnumB, tM1, tSl, tPart, tNoPart, rSlS, rIxS, tBM, rAppend, tIf, rEq, rNe, scal, hIx, hIxT, hIxB, hSet, hInt, hIntB, hLen, hLenT, hLenB, L2.start, wipe, List.map_cons, List.map_nil, List.set_cons_zero, List.set_cons_succ, List.set_nil, List.length_cons, List.length_nil, List.length_map, List.cons_append, List.nil_append, List.append_nil, List.replicate, List.getElem?_cons_zero, List.getElem?_cons_succ, Option.some.injEq, V.int.injEq, V.bl.injEq, V.ref.injEq, V.str.injEq, List.cons.injEq, exists_eq_left', exists_eq_left, exists_and_left, and_assoc, upd_same, upd_upd, HO.lst.injEq, HO.tup.injEq, atI_0, atI_1, atI_2, atI_3, set_1, set_2, set_3, CDiv, CPow, CMul, List.length_set, Int.reduceToNat, Int.reduceLE, Int.reduceLT, Int.reducePow, Int.reduceNeg, Nat.reduceAdd, Nat.reduceLT, Nat.reduceLeDiff, Nat.reducePow, Nat.zero_add, or_true, true_or, gt_iff_lt, ge_iff_le, and_true, true_and, decide_eq_true_eq, if_true, Bool.false_eq_true, if_false]
      have ec : (if Builtin.bitXor (n : Int) (r : Int) < (n : Int) then Builtin.bitXor (n : Int) (r : Int) else (n : Int)) = ((cl r n : Nat) : Int) := by
        rw [xor_nat]
        unfold cl
        by_cases c : n ^^^ r < n
        · rw [if_pos c, if_pos (by exact_mod_cast c)]
        · rw [if_neg c, if_neg (fun z => c (by exact_mod_cast z))]
      rw [ec]
      exact ⟨cl r n, rfl, e⟩
    · rintro σ H' ⟨n, v, rfl, rfl, e⟩
      rw [ni_len, List.drop_of_length_le (Nat.le_refl _)] at e
      simp only [tSeq, tAsg, tRet, tRetN, tDrop, tIfS, tNext, tNever, tOp, tUn, tVar, tC, rI0, rI, rU, tTest, tIf, tB, tAnd, tOr, tNot, tAndV, tOrV, tNotV, gName, gSub, gTupH, gCons, gNil, tYes, tCons, tNil, tLst, tTup, tCB, tCall, tMeth, tMake, tFld, sFld, tFor_c, tLc_c, iRng1, iList, iTup, iStr, iSeqB, iEnumB, tM1, tSl, tPart, tNoPart, rSlS, rIxS, tBM, rAppend, tIf, rEq, rNe, scal, hIx, hIxT, hIxB, hSet, hInt, hIntB, hLen, hLenT, hLenB, L2.start, wipe, List.map_cons, List.map_nil, List.set_cons_zero, List.set_cons_succ, List.set_nil, List.length_cons, List.length_nil, List.length_map, List.cons_append, List.nil_append, List.append_nil, List.replicate, List.getElem?_cons_zero, List.getElem?_cons_succ, Option.some.injEq, V.int.injEq, V.bl.injEq, V.ref.injEq, V.str.injEq, List.cons.injEq, exists_eq_left', exists_eq_left, exists_and_left, and_assoc, upd_same, upd_upd, HO.lst.injEq, HO.tup.injEq, atI_0, atI_1, atI_2, atI_3, set_1, set_2, set_3, CDiv, CPow, CMul, List.length_set, Int.reduceToNat, Int.reduceLE, Int.reduceLT, Int.reducePow, Int.reduceNeg, Nat.reduceAdd, Nat.reduceLT, Nat.reduceLeDiff, Nat.reducePow, Nat.zero_add, or_true, true_or, gt_iff_lt, ge_iff_le, and_true, true_and, decide_eq_true_eq, if_true, Bool.false_eq_true, if_false]
      rw [e] at q
      exact q
def spSpanned (K : PySem.W.Frag) : Sp := fun vs H Q _ => ∃ (p b : Addr) (ms R : List Nat), vs = [.ref p, .ref b] ∧ SqL K H p (ni ms) ∧ (SqL K H b (ni R) ∨ SqT K H b (ni R)) ∧ R.length + ms.length ≤ 900 ∧
  ∀ D H', Same H H' → H D = none → H' D = some (.lst (ni (spn ms R))) → Q (.ref D) H'
theorem SqL.seq' {K : PySem.W.Frag} {H H' : Hp} {p : Addr} {xs : List V} (s : Same H H') (h : SqL K H p xs) : SqL K H' p xs := s.seq h
theorem ok_spanned (T : Txt K mg a) : FnOk P w K mg base CX0 2 a.a_spanned a.d_spanned ["masks", "span"] (spSpanned K) := by
  have G_remainder := ok_remainder (P := P) (w := w) (base := base) T
  refine FunD.ok0 T.F_spanned sc_spanned (fun vs H Q E h => ?_) (fun cdv A outer s H vs Q E hr h => ?_)
  · obtain ⟨_, _, _, _, rfl, _⟩ := h
    rfl
  · obtain ⟨p, b, ms, R, rfl, hS, hB, hl, q⟩ := h
    refine ⟨_, (pss_cons (ps_set (i := 2) sc_spanned.nd rfl (.inl rfl) (pe_callTy call_list_of (by rfl) T.z_list (by decide +kernel) (pa_cons (pv 1) pa_nil)))
      (pss_cons (ps_for PassesOwn.never rfl (pi_list (pv 0)) (pg_name (i := 3) sc_spanned.nd rfl (.inl rfl))
      (pss_cons (ps_set (i := 4) sc_spanned.nd rfl (.inl rfl) (pe_call G_remainder (hr.mono (by first | decide | exact Nat.le_refl _ | omega)) (by rfl) T.g_remainder T.F_remainder.kp T.b_remainder .nil pass0 (pa_cons (pv 2) (pa_cons (pv 3) pa_nil))))
      (pss_one (ps_if (pt_truth (pv 4) (by intro _; rfl))
      (pss_one (ps_expr (pe_bm PySem.F.plainAttrs_list PySem.F.slot_list_append PySem.F.type_list_append mt_append (pv 2) (pa_cons (pv 4) pa_nil))))
      pss_nil))))
      (pss_one (ps_ret (pv 2))))), ?_⟩
    simp only [tSeq, tAsg, tRet, tRetN, tDrop, tIfS, tNext, tNever, tOp, tUn, tVar, tC, rI0, rI, rU, tTest, tIf, tB, tAnd, tOr, tNot, tAndV, tOrV, tNotV, gName, gSub, gTupH, gCons, gNil, tYes, tCons, tNil, tLst, tTup, tCB, tCall, tMeth, tMake, tFld, sFld, tFor_c, tLc_c, iRng1, iList, iTup, iStr, iSeqB, iEnumB, tM1, tSl, tPart, tNoPart, rSlS, rIxS, tBM, rAppend, tIf, rEq, rNe, scal, hIx, hIxT, hIxB, hSet, hInt, hIntB, hLen, hLenT, hLenB, L2.start, wipe, List.map_cons, List.map_nil, List.set_cons_zero, List.set_cons_succ, List.set_nil, List.length_cons, List.length_nil, List.length_map, List.cons_append, List.nil_append, List.append_nil, List.replicate, List.getElem?_cons_zero, List.getElem?_cons_succ, Option.some.injEq, V.int.injEq, V.bl.injEq, V.ref.injEq, V.str.injEq, List.cons.injEq, exists_eq_left', exists_eq_left, exists_and_left, and_assoc, upd_same, upd_upd, HO.lst.injEq, HO.tup.injEq, atI_0, atI_1, atI_2, atI_3, set_1, set_2, set_3, CDiv, CPow, CMul, List.length_set, Int.reduceToNat, Int.reduceLE, Int.reduceLT, Int.reducePow, Int.reduceNeg, Nat.reduceAdd, Nat.reduceLT, Nat.reduceLeDiff, Nat.reducePow, Nat.zero_add, or_true, true_or, gt_iff_lt, ge_iff_le, and_true, true_and, decide_eq_true_eq, if_true, Bool.false_eq_true, if_false]
    refine ⟨_, hB, fun D hD => ⟨⟨_, (same_new hD).seq hS⟩, ?_⟩⟩
    refine forLst (xs := ni ms) (fun i σ H' => ∃ (v w : Option V), σ = [some (.ref p), some (.ref b), some (.ref D), v, w] ∧ Same H H' ∧ H' D = some (.lst (ni (spn (ms.take i) R)))) ⟨none, none, rfl, same_new hD, upd_same⟩ ?_ ?_ ?_
    · rintro i σ H' _ ⟨v, w, rfl, s1, _⟩
      exact s1.seq hS
    · rintro i x σ H' hx ⟨v, w, rfl, s1, eD⟩
      obtain ⟨m, hm, rfl⟩ := ni_at hx
      simp only [tSeq, tAsg, tRet, tRetN, tDrop, tIfS, tNext, tNever, tOp, tUn, tVar, tC, rI0, rI, rU, tTest, tIf, tB, tAnd, tOr, tNot, tAndV, tOrV, tNotV, gName, gSub, gTupH, gCons, gNil, tYes, tCons, tNil, tLst, tTup, tCB, tCall, tMeth, tMake, tFld, sFld, tFor_c, tLc_c, iRng1, iList, iTup, iStr, iSeqB, iEnumB, tM1, tSl, tPart, tNoPart, rSlS, rIxS, tBM, rAppend, tIf, rEq, rNe, scal, hIx, hIxT, hIxB, hSet, hInt, hIntB, hLen, hLenT, hLenB, L2.start, wipe, List.map_cons, List.map_nil, List.set_cons_zero, List.set_cons_succ, List.set_nil, List.length_cons, List.length_nil, List.length_map, List.cons_append, List.nil_append, List.append_nil, List.replicate, List.getElem?_cons_zero, List.getElem?_cons_succ, Option.some.injEq, V.int.injEq, V.bl.injEq, V.ref.injEq, V.str.injEq, List.cons.injEq, exists_eq_left', exists_eq_left, exists_and_left, and_assoc, upd_same, upd_upd, HO.lst.injEq, HO.tup.injEq, atI_0, atI_1, atI_2, atI_3, set_1, set_2, set_3, CDiv, CPow, CMul, List.length_set, Int.reduceToNat, Int.reduceLE, Int.reduceLT, Int.reducePow, Int.reduceNeg, Nat.reduceAdd, Nat.reduceLT, Nat.reduceLeDiff, Nat.reducePow, Nat.zero_add, or_true, true_or, gt_iff_lt, ge_iff_le, and_true, true_and, decide_eq_true_eq, if_true, Bool.false_eq_true, if_false]
      have hlen : (spn (ms.take i) R).length ≤ 900 := by
        have := spn_len (ms.take i) R
        rw [List.length_take] at this
        omega
      refine ⟨D, _, m, rfl, SqL.of eD, ?_⟩
      rw [spn_take R hm]
      unfold sp
      by_cases hz : rem (spn (ms.take i) R) m = 0
      · rw [hz]
        refine ⟨false, rfl, ?_⟩
        rw [if_neg (by decide), if_pos rfl]
        exact ⟨s1, eD⟩
      · refine ⟨true, (bne_iff_ne.mpr (by exact_mod_cast hz)).symm, ?_⟩
        rw [if_pos rfl, if_neg hz]
        refine ⟨.inl ⟨rfl, _, SqL.of eD⟩, _, eD, ?_, same_out s1 hD, ni_snoc _ _⟩
        rw [ni_len]
        exact small1000 (by omega)
    · rintro σ H' ⟨v, w, rfl, s1, eD⟩
      rw [ni_len, List.take_of_length_le (Nat.le_refl _)] at eD
      simp only [tSeq, tAsg, tRet, tRetN, tDrop, tIfS, tNext, tNever, tOp, tUn, tVar, tC, rI0, rI, rU, tTest, tIf, tB, tAnd, tOr, tNot, tAndV, tOrV, tNotV, gName, gSub, gTupH, gCons, gNil, tYes, tCons, tNil, tLst, tTup, tCB, tCall, tMeth, tMake, tFld, sFld, tFor_c, tLc_c, iRng1, iList, iTup, iStr, iSeqB, iEnumB, tM1, tSl, tPart, tNoPart, rSlS, rIxS, tBM, rAppend, tIf, rEq, rNe, scal, hIx, hIxT, hIxB, hSet, hInt, hIntB, hLen, hLenT, hLenB, L2.start, wipe, List.map_cons, List.map_nil, List.set_cons_zero, List.set_cons_succ, List.set_nil, List.length_cons, List.length_nil, List.length_map, List.cons_append, List.nil_append, List.append_nil, List.replicate, List.getElem?_cons_zero, List.getElem?_cons_succ, Option.some.injEq, V.int.injEq, V.bl.injEq, V.ref.injEq, V.str.injEq, List.cons.injEq, exists_eq_left', exists_eq_left, exists_and_left, and_assoc, upd_same, upd_upd, HO.lst.injEq, HO.tup.injEq, atI_0, atI_1, atI_2, atI_3, set_1, set_2, set_3, CDiv, CPow, CMul, List.length_set, Int.reduceToNat, Int.reduceLE, Int.reduceLT, Int.reducePow, Int.reduceNeg, Nat.reduceAdd, Nat.reduceLT, Nat.reduceLeDiff, Nat.reducePow, Nat.zero_add, or_true, true_or, gt_iff_lt, ge_iff_le, and_true, true_and, decide_eq_true_eq, if_true, Bool.false_eq_true, if_false]
      exact q D H' s1 hD eD
end
end AK
set_option Elab.async false
set_option linter.all false
set_option maxRecDepth 100000
set_option maxHeartbeats 4000000
namespace AK
open PySem PySem.Spec PyProof.Rows L2
section
variable {P : Program} {w : World} {K : PySem.W.Frag} {mg : Str → Option Value} {base : Heap} {a : Ads}
def spBas (K : PySem.W.Frag) : Sp := fun vs H Q _ => ∃ (p : Addr) (ms : List Nat), vs = [.ref p] ∧ SqL K H p (ni ms) ∧ ms.length ≤ 900 ∧ ∀ D H', Same H H' → H D = none → H' D = some (.lst (ni (bas ms [] 0))) → Q (.ref D) H'
theorem ok_basis_indices (T : Txt K mg a) : FnOk P w K mg base CX0 2 a.a_basis_indices a.d_basis_indices ["masks"] (spBas K) := by
  have G_remainder := ok_remainder (P := P) (w := w) (base := base) T
  refine T.F_basis_indices.ok sc_basis_indices (fun vs H Q E h => ?_) (fun cdv A outer s H vs Q E hr h => ?_)
  · obtain ⟨_, _, rfl, _⟩ := h
    rfl
  · obtain ⟨p, ms, rfl, hS, hl, q⟩ := h
    refine ⟨_, (pss_cons (ps_set (i := 1) sc_basis_indices.nd rfl (.inl rfl) (pe_lst pa_nil))
      (pss_cons (ps_set (i := 2) sc_basis_indices.nd rfl (.inl rfl) (pe_lst pa_nil))
      (pss_cons (ps_for PassesOwn.never rfl (pi_enumB (by rfl) T.z_enumerate (pa_cons (pv 0) pa_nil)) (pg_tupH (n := 2) (by rfl) (pgs_cons (pg_name (i := 3) sc_basis_indices.nd rfl (.inl rfl)) (pgs_cons (pg_name (i := 4) sc_basis_indices.nd rfl (.inl rfl)) pgs_nil)))
      (pss_cons (ps_set (i := 5) sc_basis_indices.nd rfl (.inl rfl) (pe_call G_remainder (hr.mono (by first | decide | exact Nat.le_refl _ | omega)) (by rfl) T.g_remainder T.F_remainder.kp T.b_remainder .nil pass0 (pa_cons (pv 1) (pa_cons (pv 4) pa_nil))))
      (pss_one (ps_if (pt_truth (pv 5) (by intro _; rfl))
      (pss_cons (ps_expr (pe_bm PySem.F.plainAttrs_list PySem.F.slot_list_append PySem.F.type_list_append mt_append (pv 1) (pa_cons (pv 5) pa_nil)))
      (pss_one (ps_expr (pe_bm PySem.F.plainAttrs_list PySem.F.slot_list_append PySem.F.type_list_append mt_append (pv 2) (pa_cons (pv 3) pa_nil)))))
      pss_nil))))
      (pss_one (ps_ret (pv 2)))))), ?_⟩
    simp only [tSeq, tAsg, tRet, tRetN, tDrop, tIfS, tNext, tNever, tOp, tUn, tVar, tC, rI0, rI, rU, tTest, tIf, tB, tAnd, tOr, tNot, tAndV, tOrV, tNotV, gName, gSub, gTupH, gCons, gNil, tYes, tCons, tNil, tLst, tTup, tCB, tCall, tMeth, tMake, tFld, sFld, tFor_c, tLc_c, iRng1, iList, iTup, iStr, iSeqB, iEnumB, tM1, tSl, tPart, tNoPart, rSlS, rIxS, tBM, rAppend, tIf, rEq, rNe, scal, hIx, hIxT, hIxB, hSet, hInt, hIntB, hLen, hLenT, hLenB, L2.start, wipe, List.map_cons, List.map_nil, List.set_cons_zero, List.set_cons_succ, List.set_nil, List.length_cons, List.length_nil, List.length_map, List.cons_append, List.nil_append, List.append_nil, List.replicate, List.getElem?_cons_zero, List.getElem?_cons_succ, Option.some.injEq, V.int.injEq, V.bl.injEq, V.ref.injEq, V.str.injEq, List.cons.injEq, exists_eq_left', exists_eq_left, exists_and_left, and_assoc, upd_same, upd_upd, HO.lst.injEq, HO.tup.injEq, atI_0, atI_1, atI_2, atI_3, set_1, set_2, set_3, CDiv, CPow, CMul, List.length_set, Int.reduceToNat, Int.reduceLE, Int.reduceLT, Int.reducePow, Int.reduceNeg, Nat.reduceAdd, Nat.reduceLT, Nat.reduceLeDiff, Nat.reducePow, Nat.zero_add, or_true, true_or, gt_iff_lt, ge_iff_le, and_true, true_and, decide_eq_true_eq, if_true, Bool.false_eq_true, if_false]
    refine ⟨Nat.zero_le _, fun B hB => ⟨Nat.zero_le _, fun I hI => ?_⟩⟩
    have hBI : B ≠ I := ne_of_none upd_same hI
    have hI0 : H I = none := by rw [upd_ne hBI.symm] at hI; exact hI
    have s0 : Same H (upd (upd H B (.lst [])) I (.lst [])) := same_out (same_new hB) hI0
    refine .inl ⟨_, s0.seq hS, ?_⟩
    refine forEnumL (xs := ni ms) (fun i σ H' => ∃ (v w u : Option V) (R J : List Nat), σ = [some (.ref p), some (.ref B), some (.ref I), v, w, u] ∧ Same H H' ∧ H' B = some (.lst (ni R)) ∧ H' I = some (.lst (ni J)) ∧ R.length ≤ i ∧ J.length ≤ i ∧ bas ms [] 0 = J ++ bas (ms.drop i) R i) ⟨none, none, none, [], [], rfl, s0, by rw [upd_ne hBI]; exact upd_same, upd_same, Nat.le_refl _, Nat.le_refl _, rfl⟩ ?_ ?_ ?_
    · rintro i σ H' _ ⟨v, w, u, R, J, rfl, s1, _⟩
      exact s1.seq hS
    · rintro i x t σ H' hx ⟨v, w, u, R, J, rfl, s1, eB, eI, lR, lJ, eb⟩ ht
      obtain ⟨m, hm, rfl⟩ := ni_at hx
      have hi : i < ms.length := (List.getElem?_eq_some_iff.mp hm).1
      have tB : t ≠ B := fun z => by rw [z, eB] at ht; cases ht
      have tI : t ≠ I := fun z => by rw [z, eI] at ht; cases ht
      rw [bas_drop R hm] at eb
      simp only [tSeq, tAsg, tRet, tRetN, tDrop, tIfS, tNext, tNever, tOp, tUn, tVar, tC, rI0, rI, rU, tTest, tIf, tB, tAnd, tOr, tNot, tAndV, tOrV, tNotV, gName, gSub, gTupH, gCons, gNil, tYes, tCons, tNil, tLst, tTup, tCB, tCall, tMeth, tMake, tFld, sFld, tFor_c, tLc_c, iRng1, iList, iTup, iStr, iSeqB, iEnumB, tM1, tSl, tPart, tNoPart, rSlS, rIxS, tBM, rAppend, tIf, rEq, rNe, scal, hIx, hIxT, hIxB, hSet, hInt, hIntB, hLen, hLenT, hLenB, L2.start, wipe, List.map_cons, List.map_nil, List.set_cons_zero, List.set_cons_succ, List.set_nil, List.length_cons, List.length_nil, List.length_map, List.cons_append, List.nil_append, List.append_nil, List.replicate, List.getElem?_cons_zero, List.getElem?_cons_succ, Option.some.injEq, V.int.injEq, V.bl.injEq, V.ref.injEq, V.str.injEq, List.cons.injEq, exists_eq_left', exists_eq_left, exists_and_left, and_assoc, upd_same, upd_upd, HO.lst.injEq, HO.tup.injEq, atI_0, atI_1, atI_2, atI_3, set_1, set_2, set_3, CDiv, CPow, CMul, List.length_set, Int.reduceToNat, Int.reduceLE, Int.reduceLT, Int.reducePow, Int.reduceNeg, Nat.reduceAdd, Nat.reduceLT, Nat.reduceLeDiff, Nat.reducePow, Nat.zero_add, or_true, true_or, gt_iff_lt, ge_iff_le, and_true, true_and, decide_eq_true_eq, if_true, Bool.false_eq_true, if_false]
      have eB' : upd H' t (.tup [.int (i : Int), .int (m : Int)]) B = some (.lst (ni R)) := by rw [upd_ne tB.symm]; exact eB
      have eI' : upd H' t (.tup [.int (i : Int), .int (m : Int)]) I = some (.lst (ni J)) := by rw [upd_ne tI.symm]; exact eI
      have s1' : Same H (upd H' t (.tup [.int (i : Int), .int (m : Int)])) := Same.tr s1 (same_new ht)
      refine ⟨B, R, m, rfl, SqL.of eB', ?_⟩
      by_cases hz : rem R m = 0
      · rw [if_pos hz] at eb
        rw [hz]
        refine ⟨false, rfl, ?_⟩
        rw [if_neg (by decide)]
        exact ⟨s1', R, eB', J, eI', by omega, by omega, eb⟩
      · rw [if_neg hz] at eb
        refine ⟨true, (bne_iff_ne.mpr (by exact_mod_cast hz)).symm, ?_⟩
        rw [if_pos rfl]
        refine ⟨.inl ⟨rfl, _, SqL.of eB'⟩, _, eB', ?_, ?_⟩
        · rw [ni_len]
          exact small1000 (by omega)
        have eI2 : ∀ o, upd (upd H' t (.tup [.int (i : Int), .int (m : Int)])) B o I = some (.lst (ni J)) := fun o => by rw [upd_ne hBI.symm]; exact eI'
        refine ⟨.inl ⟨rfl, _, SqL.of (eI2 _)⟩, _, eI2 _, ?_, same_out (same_out s1' hB) hI0, R ++ [rem R m], ?_, J ++ [i], ni_snoc _ _, ?_, ?_, ?_⟩
        · rw [ni_len]
          exact small1000 (by omega)
        · rw [upd_ne hBI, upd_same, ni_snoc]
        · rw [List.length_append, List.length_singleton]; omega
        · rw [List.length_append, List.length_singleton]; omega
        · rw [eb, List.append_assoc]; rfl
    · rintro σ H' ⟨v, w, u, R, J, rfl, s1, eB, eI, lR, lJ, eb⟩
      rw [ni_len, List.drop_of_length_le (Nat.le_refl _)] at eb
      simp only [tSeq, tAsg, tRet, tRetN, tDrop, tIfS, tNext, tNever, tOp, tUn, tVar, tC, rI0, rI, rU, tTest, tIf, tB, tAnd, tOr, tNot, tAndV, tOrV, tNotV, gName, gSub, gTupH, gCons, gNil, tYes, tCons, tNil, tLst, tTup, tCB, tCall, tMeth, tMake, tFld, sFld, tFor_c, tLc_c, iRng1, iList, iTup, iStr, iSeqB, iEnumB, tM1, tSl, tPart, tNoPart, rSlS, rIxS, tBM, rAppend, tIf, rEq, rNe, scal, hIx, hIxT, hIxB, hSet, hInt, hIntB, hLen, hLenT, hLenB, L2.start, wipe, List.map_cons, List.map_nil, List.set_cons_zero, List.set_cons_succ, List.set_nil, List.length_cons, List.length_nil, List.length_map, List.cons_append, List.nil_append, List.append_nil, List.replicate, List.getElem?_cons_zero, List.getElem?_cons_succ, Option.some.injEq, V.int.injEq, V.bl.injEq, V.ref.injEq, V.str.injEq, List.cons.injEq, exists_eq_left', exists_eq_left, exists_and_left, and_assoc, upd_same, upd_upd, HO.lst.injEq, HO.tup.injEq, atI_0, atI_1, atI_2, atI_3, set_1, set_2, set_3, CDiv, CPow, CMul, List.length_set, Int.reduceToNat, Int.reduceLE, Int.reduceLT, Int.reducePow, Int.reduceNeg, Nat.reduceAdd, Nat.reduceLT, Nat.reduceLeDiff, Nat.reducePow, Nat.zero_add, or_true, true_or, gt_iff_lt, ge_iff_le, and_true, true_and, decide_eq_true_eq, if_true, Bool.false_eq_true, if_false]
      refine q I H' s1 hI0 ?_
      rw [eb, show bas [] R ms.length = [] from rfl, List.append_nil]
      exact eI
end
end AK
set_option Elab.async false
set_option linter.all false
set_option maxRecDepth 100000
set_option maxHeartbeats 4000000
namespace AK
open PySem PySem.Spec PyProof.Rows L2
theorem ps_at {l : List Nat} {i : Nat} {x : V} (h : (ps l)[i]? = some x) : ∃ n, l[i]? = some n ∧ x = V.str (pt n) := map_at h
theorem lt_pt (m : Nat) : lt (pt m) = pl m := rfl
section
variable {P : Program} {w : World} {K : PySem.W.Frag} {mg : Str → Option Value} {base : Heap} {a : Ads}
theorem ok_parity_mask (T : Txt K mg a) : FnOk P w K mg base CX0 3 a.a_parity_mask a.d_parity_mask ["text"] spMask := by
  have G_is_parity := ok_is_parity (P := P) (w := w) (base := base) T
  have G_mask_of := ok_mask_of (P := P) (w := w) (base := base) T
  refine T.F_parity_mask.ok sc_parity_mask (fun vs H Q E h => ?_) (fun cdv A outer s H vs Q E hr h => ?_)
  · obtain ⟨_, rfl, _⟩ := h
    rfl
  · obtain ⟨m, rfl, hm, q⟩ := h
    refine ⟨_, (pss_cons (ps_if (pt_not (pt_val (pe_call G_is_parity (hr.mono (by first | decide | exact Nat.le_refl _ | omega)) (by rfl) T.g_is_parity T.F_is_parity.kp T.b_is_parity .nil pass0 (pa_cons (pv 0) pa_nil))))
      pss_never
      pss_nil)
      (pss_one (ps_ret (pe_call G_mask_of (hr.mono (by first | decide | exact Nat.le_refl _ | omega)) (by rfl) T.g_mask_of T.F_mask_of.kp T.b_mask_of .nil pass0 (pa_cons (pv 0) pa_nil))))), ?_⟩
    simp only [tSeq, tAsg, tRet, tRetN, tDrop, tIfS, tNext, tNever, tOp, tUn, tVar, tC, rI0, rI, rU, tTest, tIf, tB, tAnd, tOr, tNot, tAndV, tOrV, tNotV, gName, gSub, gTupH, gCons, gNil, tYes, tCons, tNil, tLst, tTup, tCB, tCall, tMeth, tMake, tFld, sFld, tFor_c, tLc_c, iRng1, iList, iTup, iStr, iSeqB, iEnumB, tM1, tSl, tPart, tNoPart, rSlS, rIxS, tBM, rAppend, tIf, rEq, rNe, scal, hIx, hIxT, hIxB, hSet, hInt, hIntB, hLen, hLenT, hLenB, L2.start, wipe, List.map_cons, List.map_nil, List.set_cons_zero, List.set_cons_succ, List.set_nil, List.length_cons, List.length_nil, List.length_map, List.cons_append, List.nil_append, List.append_nil, List.replicate, List.getElem?_cons_zero, List.getElem?_cons_succ, Option.some.injEq, V.int.injEq, V.bl.injEq, V.ref.injEq, V.str.injEq, List.cons.injEq, exists_eq_left', exists_eq_left, exists_and_left, and_assoc, upd_same, upd_upd, HO.lst.injEq, HO.tup.injEq, atI_0, atI_1, atI_2, atI_3, set_1, set_2, set_3, CDiv, CPow, CMul, List.length_set, Int.reduceToNat, Int.reduceLE, Int.reduceLT, Int.reducePow, Int.reduceNeg, Nat.reduceAdd, Nat.reduceLT, Nat.reduceLeDiff, Nat.reducePow, Nat.zero_add, or_true, true_or, gt_iff_lt, ge_iff_le, and_true, true_and, decide_eq_true_eq, if_true, Bool.false_eq_true, if_false]
    refine ⟨_, rfl, fun H1 s1 => ?_⟩
    rw [lt_pt, (plB_of hm).1]
    exact ⟨true, rfl, iteF ⟨m, rfl, hm, fun H' s2 => q H' (Same.tr s1 s2)⟩⟩
def spMs (K : PySem.W.Frag) : Sp := fun vs H Q _ => ∃ (p : Addr) (ms : List Nat), vs = [.ref p] ∧ RowAt H p (ps ms) ∧ (∀ m ∈ ms, m < 256) ∧ ms.length ≤ 900 ∧ ∀ D H', Same H H' → H D = none → H' D = some (.lst (ni ms)) → Q (.ref D) H'
theorem ok_message_masks (T : Txt K mg a) : FnOk P w K mg base CX0 4 a.a_message_masks a.d_message_masks ["messages"] (spMs K) := by
  have G_parity_mask := ok_parity_mask (P := P) (w := w) (base := base) T
  refine T.F_message_masks.ok sc_message_masks (fun vs H Q E h => ?_) (fun cdv A outer s H vs Q E hr h => ?_)
  · obtain ⟨_, _, rfl, _⟩ := h
    rfl
  · obtain ⟨p, ms, rfl, hS, hm, hl, q⟩ := h
    refine ⟨_, (pss_one (ps_ret (pe_lc (own := [("text", 1)]) (g := gName 1) (tt := tYes) rfl sc_message_masks.nd (pi_seqB (pv 0)) (blkOk_by (own := [("text", 1)]) (N := sc_message_masks_N) (sc := defScope s_message_masks) (by decide +kernel)) (fun _ _ _ _ _ => (pg_name (i := 1) sc_message_masks.nd rfl (.inl rfl))) (fun _ _ _ _ _ => pts_nil) (fun _ _ _ _ _ => (pe_call G_parity_mask (hr.mono (by first | decide | exact Nat.le_refl _ | omega)) (by rfl) T.g_parity_mask T.F_parity_mask.kp T.b_parity_mask .nil pass0 (pa_cons (pv 1) pa_nil)))))), ?_⟩
    simp only [tSeq, tAsg, tRet, tRetN, tDrop, tIfS, tNext, tNever, tOp, tUn, tVar, tC, rI0, rI, rU, tTest, tIf, tB, tAnd, tOr, tNot, tAndV, tOrV, tNotV, gName, gSub, gTupH, gCons, gNil, tYes, tCons, tNil, tLst, tTup, tCB, tCall, tMeth, tMake, tFld, sFld, tFor_c, tLc_c, iRng1, iList, iTup, iStr, iSeqB, iEnumB, tM1, tSl, tPart, tNoPart, rSlS, rIxS, tBM, rAppend, tIf, rEq, rNe, scal, hIx, hIxT, hIxB, hSet, hInt, hIntB, hLen, hLenT, hLenB, L2.start, wipe, List.map_cons, List.map_nil, List.set_cons_zero, List.set_cons_succ, List.set_nil, List.length_cons, List.length_nil, List.length_map, List.cons_append, List.nil_append, List.append_nil, List.replicate, List.getElem?_cons_zero, List.getElem?_cons_succ, Option.some.injEq, V.int.injEq, V.bl.injEq, V.ref.injEq, V.str.injEq, List.cons.injEq, exists_eq_left', exists_eq_left, exists_and_left, and_assoc, upd_same, upd_upd, HO.lst.injEq, HO.tup.injEq, atI_0, atI_1, atI_2, atI_3, set_1, set_2, set_3, CDiv, CPow, CMul, List.length_set, Int.reduceToNat, Int.reduceLE, Int.reduceLT, Int.reducePow, Int.reduceNeg, Nat.reduceAdd, Nat.reduceLT, Nat.reduceLeDiff, Nat.reducePow, Nat.zero_add, or_true, true_or, gt_iff_lt, ge_iff_le, and_true, true_and, decide_eq_true_eq, if_true, Bool.false_eq_true, if_false]
    refine lcRow hS (fun i D H' => H' D = some (.lst (ni (ms.take i))) ∧ Same H H') (fun D hD => ⟨upd_same, same_new hD⟩) (fun i D H' _ _ z o e => z.2 _ _ e) ?_ ?_
    · rintro i x D H' hD hx ⟨eD, s1⟩
      obtain ⟨m, hm1, rfl⟩ := ps_at hx
      refine ⟨rfl, ?_⟩
      simp only [tSeq, tAsg, tRet, tRetN, tDrop, tIfS, tNext, tNever, tOp, tUn, tVar, tC, rI0, rI, rU, tTest, tIf, tB, tAnd, tOr, tNot, tAndV, tOrV, tNotV, gName, gSub, gTupH, gCons, gNil, tYes, tCons, tNil, tLst, tTup, tCB, tCall, tMeth, tMake, tFld, sFld, tFor_c, tLc_c, iRng1, iList, iTup, iStr, iSeqB, iEnumB, tM1, tSl, tPart, tNoPart, rSlS, rIxS, tBM, rAppend, tIf, rEq, rNe, scal, hIx, hIxT, hIxB, hSet, hInt, hIntB, hLen, hLenT, hLenB, L2.start, wipe, List.map_cons, List.map_nil, List.set_cons_zero, List.set_cons_succ, List.set_nil, List.length_cons, List.length_nil, List.length_map, List.cons_append, List.nil_append, List.append_nil, List.replicate, List.getElem?_cons_zero, List.getElem?_cons_succ, Option.some.injEq, V.int.injEq, V.bl.injEq, V.ref.injEq, V.str.injEq, List.cons.injEq, exists_eq_left', exists_eq_left, exists_and_left, and_assoc, upd_same, upd_upd, HO.lst.injEq, HO.tup.injEq, atI_0, atI_1, atI_2, atI_3, set_1, set_2, set_3, CDiv, CPow, CMul, List.length_set, Int.reduceToNat, Int.reduceLE, Int.reduceLT, Int.reducePow, Int.reduceNeg, Nat.reduceAdd, Nat.reduceLT, Nat.reduceLeDiff, Nat.reducePow, Nat.zero_add, or_true, true_or, gt_iff_lt, ge_iff_le, and_true, true_and, decide_eq_true_eq, if_true, Bool.false_eq_true, if_false]
      refine ⟨m, rfl, hm m (List.mem_of_getElem? hm1), fun H2 s2 => ?_⟩
      refine ⟨_, s2 _ _ eD, ?_, ?_, same_out (Same.tr s1 s2) hD⟩
      · rw [ni_len, List.length_take]
        exact small1000 (by omega)
      · rw [ni_snoc, take_s hm1]
    · rintro D H' hD ⟨eD, s1⟩
      rw [List.length_map, List.take_of_length_le (Nat.le_refl _)] at eD
      exact q D H' s1 hD eD
end
end AK
set_option Elab.async false
set_option linter.all false
set_option maxRecDepth 100000
set_option maxHeartbeats 4000000
namespace AK
open PySem PySem.Spec PyProof.Rows L2
section
variable {P : Program} {w : World} {K : PySem.W.Frag} {mg : Str → Option Value} {base : Heap} {a : Ads}
def spRank : Sp := fun vs H Q _ => ∃ (p : Addr) (ms : List Nat), vs = [.ref p] ∧ RowAt H p (ps ms) ∧ (∀ m ∈ ms, m < 256) ∧ ms.length ≤ 900 ∧ ∀ H', Same H H' → Q (.int (rank ms : Nat)) H'
theorem ok_message_rank (T : Txt K mg a) : FnOk P w K mg base CX0 5 a.a_message_rank a.d_message_rank ["messages"] spRank := by
  have G_message_masks := ok_message_masks (P := P) (w := w) (base := base) T
  have G_spanned := ok_spanned (P := P) (w := w) (base := base) T
  refine T.F_message_rank.ok sc_message_rank (fun vs H Q E h => ?_) (fun cdv A outer s H vs Q E hr h => ?_)
  · obtain ⟨_, _, rfl, _⟩ := h
    rfl
  · obtain ⟨p, ms, rfl, hS, hm, hl, q⟩ := h
    refine ⟨_, (pss_one (ps_ret (pe_callB callLen (by rfl) T.z_len PySem.boot_len (pa_cons (pe_call G_spanned (hr.mono (by first | decide | exact Nat.le_refl _ | omega)) (by rfl) T.g_spanned T.k_spanned T.b1_spanned.choose_spec.2 T.b1_spanned.choose_spec.1 pass0 (pa_cons (pe_call G_message_masks (hr.mono (by first | decide | exact Nat.le_refl _ | omega)) (by rfl) T.g_message_masks T.F_message_masks.kp T.b_message_masks .nil pass0 (pa_cons (pv 0) pa_nil)) pa_nil)) pa_nil)))), ?_⟩
    simp only [tSeq, tAsg, tRet, tRetN, tDrop, tIfS, tNext, tNever, tOp, tUn, tVar, tC, rI0, rI, rU, tTest, tIf, tB, tAnd, tOr, tNot, tAndV, tOrV, tNotV, gName, gSub, gTupH, gCons, gNil, tYes, tCons, tNil, tLst, tTup, tCB, tCall, tMeth, tMake, tFld, sFld, tFor_c, tLc_c, iRng1, iList, iTup, iStr, iSeqB, iEnumB, tM1, tSl, tPart, tNoPart, rSlS, rIxS, tBM, rAppend, tIf, rEq, rNe, scal, hIx, hIxT, hIxB, hSet, hInt, hIntB, hLen, hLenT, hLenB, L2.start, wipe, List.map_cons, List.map_nil, List.set_cons_zero, List.set_cons_succ, List.set_nil, List.length_cons, List.length_nil, List.length_map, List.cons_append, List.nil_append, List.append_nil, List.replicate, List.getElem?_cons_zero, List.getElem?_cons_succ, Option.some.injEq, V.int.injEq, V.bl.injEq, V.ref.injEq, V.str.injEq, List.cons.injEq, exists_eq_left', exists_eq_left, exists_and_left, and_assoc, upd_same, upd_upd, HO.lst.injEq, HO.tup.injEq, atI_0, atI_1, atI_2, atI_3, set_1, set_2, set_3, CDiv, CPow, CMul, List.length_set, Int.reduceToNat, Int.reduceLE, Int.reduceLT, Int.reducePow, Int.reduceNeg, Nat.reduceAdd, Nat.reduceLT, Nat.reduceLeDiff, Nat.reducePow, Nat.zero_add, or_true, true_or, gt_iff_lt, ge_iff_le, and_true, true_and, decide_eq_true_eq, if_true, Bool.false_eq_true, if_false]
    refine ⟨p, ms, rfl, hS, hm, hl, fun D H1 s1 _ e1 => ?_⟩
    refine ⟨D, _, ms, [], rfl, SqL.of e1, .inr (T.e_spanned _), by simpa using hl, fun D2 H2 s2 _ e2 => ?_⟩
    refine ⟨D2, rfl, _, e2, ?_⟩
    rw [ni_len]
    exact q H2 (Same.tr s1 s2)
end
end AK
set_option Elab.async false
set_option linter.all false
set_option maxRecDepth 100000
set_option maxHeartbeats 4000000
namespace AK
open PySem PySem.Spec PyProof.Rows L2
section
variable {P : Program} {w : World} {K : PySem.W.Frag} {mg : Str → Option Value} {base : Heap} {a : Ads}
def spDer : Sp := fun vs H Q _ => ∃ (p : Addr) (ms : List Nat) (m : Nat), vs = [.ref p, .str (pt m)] ∧ RowAt H p (ps ms) ∧ (∀ m ∈ ms, m < 256) ∧ m < 256 ∧ ms.length ≤ 900 ∧ ∀ H', Same H H' → Q (.bl (decide (rem (spn ms []) m = 0))) H'
theorem ok_is_derived (T : Txt K mg a) : FnOk P w K mg base CX0 5 a.a_is_derived a.d_is_derived ["messages", "parity"] spDer := by
  have G_message_masks := ok_message_masks (P := P) (w := w) (base := base) T
  have G_spanned := ok_spanned (P := P) (w := w) (base := base) T
  have G_parity_mask := ok_parity_mask (P := P) (w := w) (base := base) T
  have G_remainder := ok_remainder (P := P) (w := w) (base := base) T
  refine T.F_is_derived.ok sc_is_derived (fun vs H Q E h => ?_) (fun cdv A outer s H vs Q E hr h => ?_)
  · obtain ⟨_, _, _, rfl, _⟩ := h
    rfl
  · obtain ⟨p, ms, m, rfl, hS, hm, hm1, hl, q⟩ := h
    refine ⟨_, (pss_cons (ps_set (i := 2) sc_is_derived.nd rfl (.inl rfl) (pe_call G_spanned (hr.mono (by first | decide | exact Nat.le_refl _ | omega)) (by rfl) T.g_spanned T.k_spanned T.b1_spanned.choose_spec.2 T.b1_spanned.choose_spec.1 pass0 (pa_cons (pe_call G_message_masks (hr.mono (by first | decide | exact Nat.le_refl _ | omega)) (by rfl) T.g_message_masks T.F_message_masks.kp T.b_message_masks .nil pass0 (pa_cons (pv 0) pa_nil)) pa_nil)))
      (pss_one (ps_ret (pe_cmpR op_eq (pe_call G_remainder (hr.mono (by first | decide | exact Nat.le_refl _ | omega)) (by rfl) T.g_remainder T.F_remainder.kp T.b_remainder .nil pass0 (pa_cons (pv 2) (pa_cons (pe_call G_parity_mask (hr.mono (by first | decide | exact Nat.le_refl _ | omega)) (by rfl) T.g_parity_mask T.F_parity_mask.kp T.b_parity_mask .nil pass0 (pa_cons (pv 1) pa_nil)) pa_nil))) pe_int (nomark _))))), ?_⟩
    simp only [tSeq, tAsg, tRet, tRetN, tDrop, tIfS, tNext, tNever, tOp, tUn, tVar, tC, rI0, rI, rU, tTest, tIf, tB, tAnd, tOr, tNot, tAndV, tOrV, tNotV, gName, gSub, gTupH, gCons, gNil, tYes, tCons, tNil, tLst, tTup, tCB, tCall, tMeth, tMake, tFld, sFld, tFor_c, tLc_c, iRng1, iList, iTup, iStr, iSeqB, iEnumB, tM1, tSl, tPart, tNoPart, rSlS, rIxS, tBM, rAppend, tIf, rEq, rNe, scal, hIx, hIxT, hIxB, hSet, hInt, hIntB, hLen, hLenT, hLenB, L2.start, wipe, List.map_cons, List.map_nil, List.set_cons_zero, List.set_cons_succ, List.set_nil, List.length_cons, List.length_nil, List.length_map, List.cons_append, List.nil_append, List.append_nil, List.replicate, List.getElem?_cons_zero, List.getElem?_cons_succ, Option.some.injEq, V.int.injEq, V.bl.injEq, V.ref.injEq, V.str.injEq, List.cons.injEq, exists_eq_left', exists_eq_left, exists_and_left, and_assoc, upd_same, upd_upd, HO.lst.injEq, HO.tup.injEq, atI_0, atI_1, atI_2, atI_3, set_1, set_2, set_3, CDiv, CPow, CMul, List.length_set, Int.reduceToNat, Int.reduceLE, Int.reduceLT, Int.reducePow, Int.reduceNeg, Nat.reduceAdd, Nat.reduceLT, Nat.reduceLeDiff, Nat.reducePow, Nat.zero_add, or_true, true_or, gt_iff_lt, ge_iff_le, and_true, true_and, decide_eq_true_eq, if_true, Bool.false_eq_true, if_false]
    refine ⟨p, ms, rfl, hS, hm, hl, fun D H1 s1 _ e1 => ?_⟩
    refine ⟨D, _, ms, [], rfl, SqL.of e1, .inr (T.e_spanned _), by simpa using hl, fun D2 H2 s2 _ e2 => ?_⟩
    refine ⟨m, rfl, hm1, fun H3 s3 => ?_⟩
    refine ⟨D2, _, m, rfl, SqL.of (s3 _ _ e2), rfl, ?_⟩
    have z := q H3 (Same.tr (Same.tr s1 s2) s3)
    rw [int0_eq]
    exact z
def spBasis : Sp := fun vs H Q _ => ∃ (p : Addr) (ms : List Nat), vs = [.ref p] ∧ RowAt H p (ps ms) ∧ (∀ m ∈ ms, m < 256) ∧ ms.length ≤ 900 ∧ ∀ D H', Same H H' → H' D = some (.tup (ni (bas ms [] 0))) → Q (.ref D) H'
theorem ok_basis (T : Txt K mg a) : FnOk P w K mg base CX0 5 a.a_basis a.d_basis ["messages"] spBasis := by
  have G_message_masks := ok_message_masks (P := P) (w := w) (base := base) T
  have G_basis_indices := ok_basis_indices (P := P) (w := w) (base := base) T
  refine T.F_basis.ok sc_basis (fun vs H Q E h => ?_) (fun cdv A outer s H vs Q E hr h => ?_)
  · obtain ⟨_, _, rfl, _⟩ := h
    rfl
  · obtain ⟨p, ms, rfl, hS, hm, hl, q⟩ := h
    refine ⟨_, (pss_one (ps_ret (pe_callTy callTupB (by rfl) T.z_tuple (by decide +kernel) (pa_cons (pe_call G_basis_indices (hr.mono (by first | decide | exact Nat.le_refl _ | omega)) (by rfl) T.g_basis_indices T.F_basis_indices.kp T.b_basis_indices .nil pass0 (pa_cons (pe_call G_message_masks (hr.mono (by first | decide | exact Nat.le_refl _ | omega)) (by rfl) T.g_message_masks T.F_message_masks.kp T.b_message_masks .nil pass0 (pa_cons (pv 0) pa_nil)) pa_nil)) pa_nil)))), ?_⟩
    simp only [tSeq, tAsg, tRet, tRetN, tDrop, tIfS, tNext, tNever, tOp, tUn, tVar, tC, rI0, rI, rU, tTest, tIf, tB, tAnd, tOr, tNot, tAndV, tOrV, tNotV, gName, gSub, gTupH, gCons, gNil, tYes, tCons, tNil, tLst, tTup, tCB, tCall, tMeth, tMake, tFld, sFld, tFor_c, tLc_c, iRng1, iList, iTup, iStr, iSeqB, iEnumB, tM1, tSl, tPart, tNoPart, rSlS, rIxS, tBM, rAppend, tIf, rEq, rNe, scal, hIx, hIxT, hIxB, hSet, hInt, hIntB, hLen, hLenT, hLenB, L2.start, wipe, List.map_cons, List.map_nil, List.set_cons_zero, List.set_cons_succ, List.set_nil, List.length_cons, List.length_nil, List.length_map, List.cons_append, List.nil_append, List.append_nil, List.replicate, List.getElem?_cons_zero, List.getElem?_cons_succ, Option.some.injEq, V.int.injEq, V.bl.injEq, V.ref.injEq, V.str.injEq, List.cons.injEq, exists_eq_left', exists_eq_left, exists_and_left, and_assoc, upd_same, upd_upd, HO.lst.injEq, HO.tup.injEq, atI_0, atI_1, atI_2, atI_3, set_1, set_2, set_3, CDiv, CPow, CMul, List.length_set, Int.reduceToNat, Int.reduceLE, Int.reduceLT, Int.reducePow, Int.reduceNeg, Nat.reduceAdd, Nat.reduceLT, Nat.reduceLeDiff, Nat.reducePow, Nat.zero_add, or_true, true_or, gt_iff_lt, ge_iff_le, and_true, true_and, decide_eq_true_eq, if_true, Bool.false_eq_true, if_false]
    refine ⟨p, ms, rfl, hS, hm, hl, fun D H1 s1 _ e1 => ?_⟩
    refine ⟨D, ms, rfl, SqL.of e1, hl, fun D2 H2 s2 _ e2 => ?_⟩
    exact ⟨D2, _, rfl, .inl e2, fun t H3 s3 _ e3 => q t H3 (Same.tr (Same.tr s1 s2) s3) e3⟩
def spEqv : Sp := fun vs H Q _ => ∃ (p1 p2 : Addr) (A B : List Nat), vs = [.ref p1, .ref p2] ∧ RowAt H p1 (ps A) ∧ RowAt H p2 (ps B) ∧ (∀ m ∈ A, m < 256) ∧ (∀ m ∈ B, m < 256) ∧ A.length ≤ 400 ∧ B.length ≤ 400 ∧ ∀ H', Same H H' → Q (.bl (decide (rank A = rank B ∧ rank B = (spn (spn B []) (spn A [])).length))) H'
theorem ok_is_equivalent (T : Txt K mg a) : FnOk P w K mg base CX0 5 a.a_is_equivalent a.d_is_equivalent ["first", "second"] spEqv := by
  have G_message_masks := ok_message_masks (P := P) (w := w) (base := base) T
  have G_spanned := ok_spanned (P := P) (w := w) (base := base) T
  refine T.F_is_equivalent.ok sc_is_equivalent (fun vs H Q E h => ?_) (fun cdv A outer s H vs Q E hr h => ?_)
  · obtain ⟨_, _, _, _, rfl, _⟩ := h
    rfl
  · obtain ⟨p1, p2, A, B, rfl, hA, hB, mA, mB, lA, lB, q⟩ := h
    refine ⟨_, (pss_cons (ps_set (i := 2) sc_is_equivalent.nd rfl (.inl rfl) (pe_call G_spanned (hr.mono (by first | decide | exact Nat.le_refl _ | omega)) (by rfl) T.g_spanned T.k_spanned T.b1_spanned.choose_spec.2 T.b1_spanned.choose_spec.1 pass0 (pa_cons (pe_call G_message_masks (hr.mono (by first | decide | exact Nat.le_refl _ | omega)) (by rfl) T.g_message_masks T.F_message_masks.kp T.b_message_masks .nil pass0 (pa_cons (pv 0) pa_nil)) pa_nil)))
      (pss_cons (ps_set (i := 3) sc_is_equivalent.nd rfl (.inl rfl) (pe_call G_spanned (hr.mono (by first | decide | exact Nat.le_refl _ | omega)) (by rfl) T.g_spanned T.k_spanned T.b1_spanned.choose_spec.2 T.b1_spanned.choose_spec.1 pass0 (pa_cons (pe_call G_message_masks (hr.mono (by first | decide | exact Nat.le_refl _ | omega)) (by rfl) T.g_message_masks T.F_message_masks.kp T.b_message_masks .nil pass0 (pa_cons (pv 1) pa_nil)) pa_nil)))
      (pss_cons (ps_set (i := 4) sc_is_equivalent.nd rfl (.inl rfl) (pe_call G_spanned (hr.mono (by first | decide | exact Nat.le_refl _ | omega)) (by rfl) T.g_spanned T.k_spanned T.b_spanned .nil pass0 (pa_cons (pv 3) (pa_cons (pv 2) pa_nil))))
      (pss_one (ps_ret (pe_chain op_eq op_eq (pe_callB callLen (by rfl) T.z_len PySem.boot_len (pa_cons (pv 2) pa_nil)) (pe_callB callLen (by rfl) T.z_len PySem.boot_len (pa_cons (pv 3) pa_nil)) (pe_callB callLen (by rfl) T.z_len PySem.boot_len (pa_cons (pv 4) pa_nil)))))))), ?_⟩
    simp only [tSeq, tAsg, tRet, tRetN, tDrop, tIfS, tNext, tNever, tOp, tUn, tVar, tC, rI0, rI, rU, tTest, tIf, tB, tAnd, tOr, tNot, tAndV, tOrV, tNotV, gName, gSub, gTupH, gCons, gNil, tYes, tCons, tNil, tLst, tTup, tCB, tCall, tMeth, tMake, tFld, sFld, tFor_c, tLc_c, iRng1, iList, iTup, iStr, iSeqB, iEnumB, tM1, tSl, tPart, tNoPart, rSlS, rIxS, tBM, rAppend, tIf, rEq, rNe, scal, hIx, hIxT, hIxB, hSet, hInt, hIntB, hLen, hLenT, hLenB, L2.start, wipe, List.map_cons, List.map_nil, List.set_cons_zero, List.set_cons_succ, List.set_nil, List.length_cons, List.length_nil, List.length_map, List.cons_append, List.nil_append, List.append_nil, List.replicate, List.getElem?_cons_zero, List.getElem?_cons_succ, Option.some.injEq, V.int.injEq, V.bl.injEq, V.ref.injEq, V.str.injEq, List.cons.injEq, exists_eq_left', exists_eq_left, exists_and_left, and_assoc, upd_same, upd_upd, HO.lst.injEq, HO.tup.injEq, atI_0, atI_1, atI_2, atI_3, set_1, set_2, set_3, CDiv, CPow, CMul, List.length_set, Int.reduceToNat, Int.reduceLE, Int.reduceLT, Int.reducePow, Int.reduceNeg, Nat.reduceAdd, Nat.reduceLT, Nat.reduceLeDiff, Nat.reducePow, Nat.zero_add, or_true, true_or, gt_iff_lt, ge_iff_le, and_true, true_and, decide_eq_true_eq, if_true, Bool.false_eq_true, if_false]
    have lsp : ∀ ms : List Nat, (spn ms []).length ≤ ms.length := rank_len
    refine ⟨p1, A, rfl, hA, mA, by omega, fun D1 H1 s1 _ e1 => ?_⟩
    refine ⟨D1, _, A, [], rfl, SqL.of e1, .inr (T.e_spanned _), by simp only [List.length_nil]; omega, fun D2 H2 s2 _ e2 => ?_⟩
    refine ⟨p2, B, rfl, rowS (Same.tr s1 s2) hB, mB, by omega, fun D3 H3 s3 _ e3 => ?_⟩
    refine ⟨D3, _, B, [], rfl, SqL.of e3, .inr (T.e_spanned _), by simp only [List.length_nil]; omega, fun D4 H4 s4 _ e4 => ?_⟩
    have e2' := s4 _ _ (s3 _ _ e2)
    refine ⟨D4, D2, _, _, rfl, SqL.of e4, .inl (SqL.of e2'), by have := lsp A; have := lsp B; omega, fun D5 H5 s5 _ e5 => ?_⟩
    have z := q H5 (Same.tr (Same.tr (Same.tr (Same.tr s1 s2) s3) s4) s5)
    unfold tChain
    simp only [tSeq, tAsg, tRet, tRetN, tDrop, tIfS, tNext, tNever, tOp, tUn, tVar, tC, rI0, rI, rU, tTest, tIf, tB, tAnd, tOr, tNot, tAndV, tOrV, tNotV, gName, gSub, gTupH, gCons, gNil, tYes, tCons, tNil, tLst, tTup, tCB, tCall, tMeth, tMake, tFld, sFld, tFor_c, tLc_c, iRng1, iList, iTup, iStr, iSeqB, iEnumB, tM1, tSl, tPart, tNoPart, rSlS, rIxS, tBM, rAppend, tIf, rEq, rNe, scal, hIx, hIxT, hIxB, hSet, hInt, hIntB, hLen, hLenT, hLenB, L2.start, wipe, List.map_cons, List.map_nil, List.set_cons_zero, List.set_cons_succ, List.set_nil, List.length_cons, List.length_nil, List.length_map, List.cons_append, List.nil_append, List.append_nil, List.replicate, List.getElem?_cons_zero, List.getElem?_cons_succ, Option.some.injEq, V.int.injEq, V.bl.injEq, V.ref.injEq, V.str.injEq, List.cons.injEq, exists_eq_left', exists_eq_left, exists_and_left, and_assoc, upd_same, upd_upd, HO.lst.injEq, HO.tup.injEq, atI_0, atI_1, atI_2, atI_3, set_1, set_2, set_3, CDiv, CPow, CMul, List.length_set, Int.reduceToNat, Int.reduceLE, Int.reduceLT, Int.reducePow, Int.reduceNeg, Nat.reduceAdd, Nat.reduceLT, Nat.reduceLeDiff, Nat.reducePow, Nat.zero_add, or_true, true_or, gt_iff_lt, ge_iff_le, and_true, true_and, decide_eq_true_eq, if_true, Bool.false_eq_true, if_false]
    refine ⟨_, s5 _ _ e2', _, s5 _ _ e4, ?_⟩
    rw [ni_len, ni_len]
    unfold rank at z
    by_cases h : (spn A []).length = (spn B []).length
    · rw [if_pos (by exact_mod_cast h)]
      refine ⟨_, e5, ?_⟩
      rw [ni_len]
      have e : decide (((spn B []).length : Int) = ((spn (spn B []) (spn A [])).length : Int)) = decide ((spn A []).length = (spn B []).length ∧ (spn B []).length = (spn (spn B []) (spn A [])).length) := by
        rw [decide_eq_decide]
        constructor
        · exact fun y => ⟨h, by exact_mod_cast y⟩
        · exact fun y => by exact_mod_cast y.2
      rw [e]
      exact z
    · rw [if_neg (fun y => h (by exact_mod_cast y))]
      rw [decide_eq_false (fun y => h y.1)] at z
      exact z
def spOth (K : PySem.W.Frag) : Sp := fun vs H Q _ => ∃ (p : Addr) (ms : List Nat) (i : Nat), vs = [.ref p, .int (i : Int)] ∧ H p = some (.lst (ni ms)) ∧ i < ms.length ∧ ms.length ≤ 900 ∧ ∀ H', Same H H' → Q (.bl (rid ms i)) H'
theorem ok_is_derived_from_others (T : Txt K mg a) : FnOk P w K mg base CX0 3 a.a_is_derived_from_others a.d_is_derived_from_others ["masks", "index"] (spOth K) := by
  have G_spanned := ok_spanned (P := P) (w := w) (base := base) T
  have G_remainder := ok_remainder (P := P) (w := w) (base := base) T
  refine T.F_is_derived_from_others.ok sc_is_derived_from_others (fun vs H Q E h => ?_) (fun cdv A outer s H vs Q E hr h => ?_)
  · obtain ⟨_, _, _, rfl, _⟩ := h
    rfl
  · obtain ⟨p, ms, i, rfl, hS, hi, hl, q⟩ := h
    refine ⟨_, (pss_cons (ps_set (i := 2) sc_is_derived_from_others.nd rfl (.inl rfl) (pe_op op_cat (pe_slice sl_list (pv 0) po_none (po_some (pv 1))) (pe_slice sl_list (pv 0) (po_some (pe_op op_add (pv 1) pe_int)) po_none)))
      (pss_one (ps_ret (pe_cmpR op_eq (pe_call G_remainder (hr.mono (by first | decide | exact Nat.le_refl _ | omega)) (by rfl) T.g_remainder T.F_remainder.kp T.b_remainder .nil pass0 (pa_cons (pe_call G_spanned (hr.mono (by first | decide | exact Nat.le_refl _ | omega)) (by rfl) T.g_spanned T.k_spanned T.b1_spanned.choose_spec.2 T.b1_spanned.choose_spec.1 pass0 (pa_cons (pv 2) pa_nil)) (pa_cons (pe_ix ixH (pv 0) (pv 1) (fun _ _ => rfl)) pa_nil))) pe_int (nomark _))))), ?_⟩
    simp only [tSeq, tAsg, tRet, tRetN, tDrop, tIfS, tNext, tNever, tOp, tUn, tVar, tC, rI0, rI, rU, tTest, tIf, tB, tAnd, tOr, tNot, tAndV, tOrV, tNotV, gName, gSub, gTupH, gCons, gNil, tYes, tCons, tNil, tLst, tTup, tCB, tCall, tMeth, tMake, tFld, sFld, tFor_c, tLc_c, iRng1, iList, iTup, iStr, iSeqB, iEnumB, tM1, tSl, tPart, tNoPart, rSlS, rIxS, tBM, rAppend, tIf, rEq, rNe, scal, hIx, hIxT, hIxB, hSet, hInt, hIntB, hLen, hLenT, hLenB, L2.start, wipe, List.map_cons, List.map_nil, List.set_cons_zero, List.set_cons_succ, List.set_nil, List.length_cons, List.length_nil, List.length_map, List.cons_append, List.nil_append, List.append_nil, List.replicate, List.getElem?_cons_zero, List.getElem?_cons_succ, Option.some.injEq, V.int.injEq, V.bl.injEq, V.ref.injEq, V.str.injEq, List.cons.injEq, exists_eq_left', exists_eq_left, exists_and_left, and_assoc, upd_same, upd_upd, HO.lst.injEq, HO.tup.injEq, atI_0, atI_1, atI_2, atI_3, set_1, set_2, set_3, CDiv, CPow, CMul, List.length_set, Int.reduceToNat, Int.reduceLE, Int.reduceLT, Int.reducePow, Int.reduceNeg, Nat.reduceAdd, Nat.reduceLT, Nat.reduceLeDiff, Nat.reducePow, Nat.zero_add, or_true, true_or, gt_iff_lt, ge_iff_le, and_true, true_and, decide_eq_true_eq, if_true, Bool.false_eq_true, if_false]
    refine ⟨p, _, rfl, SqL.of hS, fun D1 h1 => ?_⟩
    rw [cutV_take]
    have s1 := same_new (o := .lst ((ni ms).take i)) h1
    refine ⟨p, _, rfl, SqL.of (s1 _ _ hS), fun D2 h2 => ?_⟩
    rw [show ((i : Int) + 1) = ((i + 1 : Nat) : Int) from rfl, cutV_drop]
    have s2 := same_new (o := .lst ((ni ms).drop (i + 1))) h2
    refine ⟨D1, D2, _, _, rfl, rfl, s2 _ _ upd_same, upd_same, ?_, fun D3 h3 => ?_⟩
    · rw [List.length_take, List.length_drop, ni_len]
      exact sizeLe (by omega)
    have s3 := same_new (o := .lst ((ni ms).take i ++ (ni ms).drop (i + 1))) h3
    have e3 : (ni ms).take i ++ (ni ms).drop (i + 1) = ni (oth ms i) := by
      unfold oth
      rw [ni, ni, List.map_append, List.map_take, List.map_drop]
    rw [e3] at s3 ⊢
    have lo : (oth ms i).length ≤ 900 := by
      unfold oth
      rw [List.length_append, List.length_take, List.length_drop]
      omega
    refine ⟨D3, _, oth ms i, [], rfl, SqL.of upd_same, .inr (T.e_spanned _), by simp only [List.length_nil]; omega, fun D4 H4 s4 _ e4 => ?_⟩
    have s14 : Same H H4 := Same.tr (Same.tr (Same.tr s1 s2) s3) s4
    have hm : ms[i]? = some ms[i] := List.getElem?_eq_getElem hi
    refine ⟨_, s14 _ _ hS, _, atI_nat (by rw [List.getElem?_map, hm]; rfl), D4, _, ms[i], rfl, SqL.of e4, rfl, ?_⟩
    rw [int0_eq]
    have z := q H4 s14
    unfold rid at z
    rw [List.getD_eq_getElem?_getD, hm] at z
    exact z
def spRedu : Sp := fun vs H Q _ => ∃ (p : Addr) (ms : List Nat), vs = [.ref p] ∧ RowAt H p (ps ms) ∧ (∀ m ∈ ms, m < 256) ∧ ms.length ≤ 900 ∧ ∀ D H', Same H H' → H' D = some (.tup (ni (redu ms))) → Q (.ref D) H'
theorem ok_redundant (T : Txt K mg a) : FnOk P w K mg base CX0 5 a.a_redundant a.d_redundant ["messages"] spRedu := by
  have G_message_masks := ok_message_masks (P := P) (w := w) (base := base) T
  have G_basis_indices := ok_basis_indices (P := P) (w := w) (base := base) T
  have G_is_derived_from_others := ok_is_derived_from_others (P := P) (w := w) (base := base) T
  refine T.F_redundant.ok sc_redundant (fun vs H Q E h => ?_) (fun cdv A outer s H vs Q E hr h => ?_)
  · obtain ⟨_, _, rfl, _⟩ := h
    rfl
  · obtain ⟨p, ms, rfl, hS, hm, hl, q⟩ := h
    refine ⟨_, (pss_cons (ps_set (i := 1) sc_redundant.nd rfl (.inr rfl) (pe_call G_message_masks (hr.mono (by first | decide | exact Nat.le_refl _ | omega)) (by rfl) T.g_message_masks T.F_message_masks.kp T.b_message_masks .nil pass0 (pa_cons (pv 0) pa_nil)))
      (pss_cons (ps_set (i := 2) sc_redundant.nd rfl (.inr rfl) (pe_lc (own := [("index", 3)]) (g := gName 3)  rfl sc_redundant.nd (pi_list (pe_call G_basis_indices (hr.mono (by first | decide | exact Nat.le_refl _ | omega)) (by rfl) T.g_basis_indices T.F_basis_indices.kp T.b_basis_indices .nil pass0 (pa_cons (pv 1) pa_nil))) (blkOk_by (own := [("index", 3)]) (N := sc_redundant_N) (sc := defScope s_redundant) (by decide +kernel)) (fun _ _ _ _ _ => (pg_name (i := 3) sc_redundant.nd rfl (.inl rfl))) (fun _ _ _ _ _ => (pts_one (pt_not (pt_val (pe_call G_is_derived_from_others (hr.mono (by first | decide | exact Nat.le_refl _ | omega)) (by rfl) T.g_is_derived_from_others T.F_is_derived_from_others.kp T.b_is_derived_from_others .nil pass0 (pa_cons (pv 1) (pa_cons (pv 3) pa_nil))))))) (fun _ _ _ _ _ => (pv 3))))
      (pss_one (ps_ret (pe_callTy callTupB (by rfl) T.z_tuple (by decide +kernel) (pa_cons (pe_lc (own := [("index", 3)]) (g := gName 3)  (tt := tTest (tOp (rIn K true) (tVar 3) (tVar 2)))  rfl sc_redundant.nd (pi_range1 (by rfl) T.z_range (pa_cons (pe_callB callLen (by rfl) T.z_len PySem.boot_len (pa_cons (pv 1) pa_nil)) pa_nil)) (blkOk_by (own := [("index", 3)]) (N := sc_redundant_N) (sc := defScope s_redundant) (by decide +kernel)) (fun _ _ _ _ _ => (pg_name (i := 3) sc_redundant.nd rfl (.inl rfl))) (fun _ _ _ _ _ => by exact (pts_one (pt_cmpR op_notIn_seq (pv 3) (pv 2) (by rfl)))) (fun _ _ _ _ _ => (pv 3))) pa_nil)))))), ?_⟩
    simp only [tSeq, tAsg, tRet, tRetN, tDrop, tIfS, tNext, tNever, tOp, tUn, tVar, tC, rI0, rI, rU, tTest, tIf, tB, tAnd, tOr, tNot, tAndV, tOrV, tNotV, gName, gSub, gTupH, gCons, gNil, tYes, tCons, tNil, tLst, tTup, tCB, tCall, tMeth, tMake, tFld, sFld, tFor_c, tLc_c, iRng1, iList, iTup, iStr, iSeqB, iEnumB, tM1, tSl, tPart, tNoPart, rSlS, rIxS, tBM, rAppend, tIf, rEq, rNe, scal, hIx, hIxT, hIxB, hSet, hInt, hIntB, hLen, hLenT, hLenB, L2.start, wipe, List.map_cons, List.map_nil, List.set_cons_zero, List.set_cons_succ, List.set_nil, List.length_cons, List.length_nil, List.length_map, List.cons_append, List.nil_append, List.append_nil, List.replicate, List.getElem?_cons_zero, List.getElem?_cons_succ, Option.some.injEq, V.int.injEq, V.bl.injEq, V.ref.injEq, V.str.injEq, List.cons.injEq, exists_eq_left', exists_eq_left, exists_and_left, and_assoc, upd_same, upd_upd, HO.lst.injEq, HO.tup.injEq, atI_0, atI_1, atI_2, atI_3, set_1, set_2, set_3, CDiv, CPow, CMul, List.length_set, Int.reduceToNat, Int.reduceLE, Int.reduceLT, Int.reducePow, Int.reduceNeg, Nat.reduceAdd, Nat.reduceLT, Nat.reduceLeDiff, Nat.reducePow, Nat.zero_add, or_true, true_or, gt_iff_lt, ge_iff_le, and_true, true_and, decide_eq_true_eq, if_true, Bool.false_eq_true, if_false]
    refine ⟨p, ms, rfl, hS, hm, hl, fun D H1 s1 _ e1 => ?_⟩
    have hb : ∀ k ∈ bas ms [] 0, k < ms.length := fun k hk => by
      have := (bas_mem ms [] 0 k hk).2
      omega
    have lb : (bas ms [] 0).length ≤ 900 := by
      have := rank_len ms
      rw [bas_len, cho_rank]
      omega
    refine ⟨D, ms, rfl, SqL.of e1, hl, fun D2 H2 s2 n2 e2 => ?_⟩
    refine ⟨D2, rfl, ⟨_, SqL.of e2⟩, ?_⟩
    refine lcLst (xs := ni (bas ms [] 0)) (fun i D' H' => H' D' = some (.lst (ni (((bas ms [] 0).take i).filter fun k => !rid ms k))) ∧ Same H2 H') (fun D' hD => ⟨upd_same, same_new hD⟩) (fun i D' H' _ _ z => SqL.of (z.2 _ _ e2)) ?_ ?_
    · rintro i x D' H' hD hx ⟨eD, s3⟩
      obtain ⟨k, hk, rfl⟩ := ni_at hx
      have hk2 := hb k (List.mem_of_getElem? hk)
      refine ⟨rfl, ?_⟩
      simp only [tSeq, tAsg, tRet, tRetN, tDrop, tIfS, tNext, tNever, tOp, tUn, tVar, tC, rI0, rI, rU, tTest, tIf, tB, tAnd, tOr, tNot, tAndV, tOrV, tNotV, gName, gSub, gTupH, gCons, gNil, tYes, tCons, tNil, tLst, tTup, tCB, tCall, tMeth, tMake, tFld, sFld, tFor_c, tLc_c, iRng1, iList, iTup, iStr, iSeqB, iEnumB, tM1, tSl, tPart, tNoPart, rSlS, rIxS, tBM, rAppend, tIf, rEq, rNe, scal, hIx, hIxT, hIxB, hSet, hInt, hIntB, hLen, hLenT, hLenB, L2.start, wipe, List.map_cons, List.map_nil, List.set_cons_zero, List.set_cons_succ, List.set_nil, List.length_cons, List.length_nil, List.length_map, List.cons_append, List.nil_append, List.append_nil, List.replicate, List.getElem?_cons_zero, List.getElem?_cons_succ, Option.some.injEq, V.int.injEq, V.bl.injEq, V.ref.injEq, V.str.injEq, List.cons.injEq, exists_eq_left', exists_eq_left, exists_and_left, and_assoc, upd_same, upd_upd, HO.lst.injEq, HO.tup.injEq, atI_0, atI_1, atI_2, atI_3, set_1, set_2, set_3, CDiv, CPow, CMul, List.length_set, Int.reduceToNat, Int.reduceLE, Int.reduceLT, Int.reducePow, Int.reduceNeg, Nat.reduceAdd, Nat.reduceLT, Nat.reduceLeDiff, Nat.reducePow, Nat.zero_add, or_true, true_or, gt_iff_lt, ge_iff_le, and_true, true_and, decide_eq_true_eq, if_true, Bool.false_eq_true, if_false]
      refine ⟨D, ms, k, rfl, s3 _ _ (s2 _ _ e1), hk2, hl, fun H3 s4 => ⟨_, rfl, ?_⟩⟩
      rw [take_s hk, List.filter_append]
      cases hr2 : rid ms k with
      | true =>
        rw [if_neg (show ¬(!true) = true by decide), show [k].filter (fun k => !rid ms k) = [] from by simp [hr2], List.append_nil]
        exact ⟨s4 _ _ eD, Same.tr s3 s4⟩
      | false =>
        rw [if_pos (show (!false) = true from rfl), show [k].filter (fun k => !rid ms k) = [k] from by simp [hr2]]
        refine ⟨_, s4 _ _ eD, ?_, ni_snoc _ _, same_out (Same.tr s3 s4) hD⟩
        rw [ni_len]
        refine small1000 (Nat.le_trans (List.length_filter_le _ _) ?_)
        rw [List.length_take]
        omega
    · rintro D' H' hD ⟨eD, s3⟩
      rw [ni_len, List.take_of_length_le (Nat.le_refl _)] at eD
      have e1' := s3 _ _ (s2 _ _ e1)
      refine ⟨D, rfl, _, e1', by omega, by rw [ni_len]; omega, ?_⟩
      rw [ni_len, Int.toNat_natCast]
      refine lcRng (fun i D3 H3 => H3 D3 = some (.lst (ni ((List.range i).filter fun i => !decide (i ∈ (bas ms [] 0).filter fun k => !rid ms k)))) ∧ Same H' H3) (fun D3 hD3 => ⟨upd_same, same_new hD3⟩) ?_ ?_
      · rintro i D3 H3 hD3 hi ⟨eD3, s4⟩
        have ei : (0 : Int) + (i : Nat) = (i : Nat) := Int.zero_add _
        refine ⟨rfl, ?_⟩
        simp only [tSeq, tAsg, tRet, tRetN, tDrop, tIfS, tNext, tNever, tOp, tUn, tVar, tC, rI0, rI, rU, tTest, tIf, tB, tAnd, tOr, tNot, tAndV, tOrV, tNotV, gName, gSub, gTupH, gCons, gNil, tYes, tCons, tNil, tLst, tTup, tCB, tCall, tMeth, tMake, tFld, sFld, tFor_c, tLc_c, iRng1, iList, iTup, iStr, iSeqB, iEnumB, tM1, tSl, tPart, tNoPart, rSlS, rIxS, tBM, rAppend, tIf, rEq, rNe, scal, hIx, hIxT, hIxB, hSet, hInt, hIntB, hLen, hLenT, hLenB, L2.start, wipe, List.map_cons, List.map_nil, List.set_cons_zero, List.set_cons_succ, List.set_nil, List.length_cons, List.length_nil, List.length_map, List.cons_append, List.nil_append, List.append_nil, List.replicate, List.getElem?_cons_zero, List.getElem?_cons_succ, Option.some.injEq, V.int.injEq, V.bl.injEq, V.ref.injEq, V.str.injEq, List.cons.injEq, exists_eq_left', exists_eq_left, exists_and_left, and_assoc, upd_same, upd_upd, HO.lst.injEq, HO.tup.injEq, atI_0, atI_1, atI_2, atI_3, set_1, set_2, set_3, CDiv, CPow, CMul, List.length_set, Int.reduceToNat, Int.reduceLE, Int.reduceLT, Int.reducePow, Int.reduceNeg, Nat.reduceAdd, Nat.reduceLT, Nat.reduceLeDiff, Nat.reducePow, Nat.zero_add, or_true, true_or, gt_iff_lt, ge_iff_le, and_true, true_and, decide_eq_true_eq, if_true, Bool.false_eq_true, if_false]
        refine ⟨D', _, rfl, .inl (SqL.of (s4 _ _ eD)), rfl, flat_ni _, _, rfl, ?_⟩
        rw [if_pos rfl, ei, in_ni, List.range_succ, List.filter_append]
        by_cases hi2 : i ∈ (bas ms [] 0).filter fun k => !rid ms k
        · rw [decide_eq_true hi2, if_neg (show ¬(!true) = true by decide), show [i].filter (fun i => !decide (i ∈ (bas ms [] 0).filter fun k => !rid ms k)) = [] from by rw [List.filter_cons, decide_eq_true hi2]; rfl, List.append_nil]
          exact ⟨eD3, s4⟩
        · rw [decide_eq_false hi2, if_pos (show (!false) = true from rfl), show [i].filter (fun i => !decide (i ∈ (bas ms [] 0).filter fun k => !rid ms k)) = [i] from by rw [List.filter_cons, decide_eq_false hi2]; rfl]
          refine ⟨_, eD3, ?_, ni_snoc _ _, same_out s4 hD3⟩
          rw [ni_len]
          refine small1000 (Nat.le_trans (List.length_filter_le _ _) ?_)
          rw [List.length_range]
          omega
      · rintro D3 H3 hD3 ⟨eD3, s4⟩
        refine ⟨D3, _, rfl, .inl eD3, fun t H4 s5 _ e5 => q t H4 ?_ e5⟩
        exact Same.tr (Same.tr (Same.tr (Same.tr s1 s2) s3) s4) s5
end
end AK
set_option Elab.async false
set_option linter.all false
set_option maxRecDepth 100000
set_option maxHeartbeats 4000000
namespace AK
open PySem PySem.Spec PyProof.Rows L2
section
variable {P : Program} {w : World} {K : PySem.W.Frag} {mg : Str → Option Value} {base : Heap} {a : Ads}
/-! the pool -/
def poolNum (z : Int) : Int := if 0 ≤ z then 2 * z else -2 * z - 1
theorem poolNum_nn (z : Int) : 0 ≤ poolNum z := by
  unfold poolNum
  split <;> omega
def spPoolP : Prop := True
structure Pool (G H : Hp) (p : Addr) : Prop where
  le : Same G H
  out : G p = none
  ex : ∃ (c : Addr) (cells : List Int) (i d x : Int), H p = some (.lst [.ref c, .int i, .int d, .int x]) ∧ G c = some (.lst (cells.map V.int)) ∧ (∀ z ∈ cells, 0 ≤ z) ∧ 0 ≤ i ∧ 0 ≤ d ∧ 0 ≤ x ∧ x < 2147483647
def spPool (K : PySem.W.Frag) : Sp := fun vs H Q _ => ∃ (a : Addr) (ns : List Int), vs = [.ref a] ∧ SqL K H a (ns.map V.int) ∧ ns.length ≤ 63 ∧ ∀ G H' p, Same H G → H p = none → Pool G H' p → Q (.ref p) H'
theorem ok_law_pool {f : Addr} {fd : FuncData} (F : Fun K "_law_pool" "_law_pool" s_law_pool f fd) : FnOk P w K mg base CX0 1 f fd ["script"] (spPool K) := by
  refine F.ok sc_law_pool (fun vs H Q E h => ?_) (fun cdv A outer s H vs Q E hr h => ?_)
  · obtain ⟨a, ns, rfl, _⟩ := h
    rfl
  · obtain ⟨a, ns, rfl, hS, hl, q⟩ := h
    refine ⟨_, (pss_one (ps_ret (pe_lst (pa_cons (pe_lc (own := [("cell", 1)]) (g := gName 1) (tt := tYes) rfl sc_law_pool.nd (pi_list (pv 0)) (blkOk_by (own := [("cell", 1)]) (N := sc_law_pool_N) (sc := defScope s_law_pool) (by decide +kernel)) (fun _ _ _ _ _ => (pg_name (i := 1) sc_law_pool.nd rfl (.inl rfl))) (fun _ _ _ _ _ => pts_nil) (fun _ _ _ _ _ => (pe_ifExp (pt_cmpR op_ge (pv 1) pe_int (nomark _)) (pe_op op_mul pe_int (pv 1)) (pe_op op_sub (pe_op op_mul (pe_un un_neg pe_int) (pv 1)) pe_int)))) (pa_cons pe_int (pa_cons pe_int (pa_cons pe_int pa_nil))))))), ?_⟩
    refine ⟨_, rfl, a, rfl, ⟨_, hS⟩, fun D hD => ?_⟩
    refine lc_list (K := K) (a := a) (xs := ns.map V.int) (fun i H' => ∃ o, H' = upd H D o ∧ o = .lst (((ns.take i).map poolNum).map V.int)) ⟨_, rfl, rfl⟩ ?_ ?_ ?_
    · rintro i H' _ ⟨o, rfl, _⟩
      exact (same_new hD).seq hS
    · rintro i x H' hx ⟨o, rfl, rfl⟩
      obtain ⟨z, hz, rfl⟩ := map_at hx
      refine ⟨rfl, ?_⟩
      simp only [tSeq, tAsg, tRet, tRetN, tDrop, tIfS, tNext, tNever, tOp, tUn, tVar, tC, rI0, rI, rU, tTest, tIf, tB, tAnd, tOr, tNot, tAndV, tOrV, tNotV, gName, gSub, gTupH, gCons, gNil, tYes, tCons, tNil, tLst, tTup, tCB, tCall, tMeth, tMake, tFld, sFld, tFor_c, tLc_c, iRng1, iList, iTup, iStr, iSeqB, iEnumB, tM1, tSl, tPart, tNoPart, rSlS, rIxS, tBM, rAppend, tIf, rEq, rNe, scal, hIx, hIxT, hIxB, hSet, hInt, hIntB, hLen, hLenT, hLenB, L2.start, wipe, List.map_cons, List.map_nil, List.set_cons_zero, List.set_cons_succ, List.set_nil, List.length_cons, List.length_nil, List.length_map, List.cons_append, List.nil_append, List.append_nil, List.replicate, List.getElem?_cons_zero, List.getElem?_cons_succ, Option.some.injEq, V.int.injEq, V.bl.injEq, V.ref.injEq, V.str.injEq, List.cons.injEq, exists_eq_left', exists_eq_left, exists_and_left, and_assoc, upd_same, upd_upd, HO.lst.injEq, HO.tup.injEq, atI_0, atI_1, atI_2, atI_3, set_1, set_2, set_3, CDiv, CPow, CMul, List.length_set, Int.reduceToNat, Int.reduceLE, Int.reduceLT, Int.reducePow, Int.reduceNeg, Nat.reduceAdd, Nat.reduceLT, Nat.reduceLeDiff, Nat.reducePow, Nat.zero_add, or_true, true_or, gt_iff_lt, ge_iff_le, and_true, true_and, decide_eq_true_eq, if_true, Bool.false_eq_true, if_false, *]
      have e1 : ((ns.take (i + 1)).map poolNum).map V.int = ((ns.take i).map poolNum).map V.int ++ [V.int (poolNum z)] := by
        rw [take_s hz, List.map_append, List.map_append]
        rfl
      have e2 : (((ns.take i).map poolNum).map V.int).length < sizeLine := by
        rw [List.length_map, List.length_map, List.length_take]
        exact small1000 (by omega)
      refine ite2 (fun c => ?_) (fun c => ?_)
      · refine ⟨by rw [List.length_map, List.length_map] at e2; exact e2, _, rfl, ?_⟩
        rw [e1]
        unfold poolNum
        rw [if_pos c]
      · refine ⟨by rw [List.length_map, List.length_map] at e2; exact e2, _, rfl, ?_⟩
        rw [e1]
        unfold poolNum
        rw [if_neg c]
    · rintro H' ⟨o, rfl, rfl⟩
      simp only [tSeq, tAsg, tRet, tRetN, tDrop, tIfS, tNext, tNever, tOp, tUn, tVar, tC, rI0, rI, rU, tTest, tIf, tB, tAnd, tOr, tNot, tAndV, tOrV, tNotV, gName, gSub, gTupH, gCons, gNil, tYes, tCons, tNil, tLst, tTup, tCB, tCall, tMeth, tMake, tFld, sFld, tFor_c, tLc_c, iRng1, iList, iTup, iStr, iSeqB, iEnumB, tM1, tSl, tPart, tNoPart, rSlS, rIxS, tBM, rAppend, tIf, rEq, rNe, scal, hIx, hIxT, hIxB, hSet, hInt, hIntB, hLen, hLenT, hLenB, L2.start, wipe, List.map_cons, List.map_nil, List.set_cons_zero, List.set_cons_succ, List.set_nil, List.length_cons, List.length_nil, List.length_map, List.cons_append, List.nil_append, List.append_nil, List.replicate, List.getElem?_cons_zero, List.getElem?_cons_succ, Option.some.injEq, V.int.injEq, V.bl.injEq, V.ref.injEq, V.str.injEq, List.cons.injEq, exists_eq_left', exists_eq_left, exists_and_left, and_assoc, upd_same, upd_upd, HO.lst.injEq, HO.tup.injEq, atI_0, atI_1, atI_2, atI_3, set_1, set_2, set_3, CDiv, CPow, CMul, List.length_set, Int.reduceToNat, Int.reduceLE, Int.reduceLT, Int.reducePow, Int.reduceNeg, Nat.reduceAdd, Nat.reduceLT, Nat.reduceLeDiff, Nat.reducePow, Nat.zero_add, or_true, true_or, gt_iff_lt, ge_iff_le, and_true, true_and, decide_eq_true_eq, if_true, Bool.false_eq_true, if_false, *]
      refine ⟨by show 3 + 1 ≤ sizeLine; decide, fun p hp => ?_⟩
      have hpD : p ≠ D := (ne_of_none upd_same hp).symm
      have hpn : H p = none := by rw [upd_ne hpD] at hp; exact hp
      refine q (upd H D (.lst ((ns.map poolNum).map V.int))) _ p (same_new hD) hpn ⟨?_, ?_, D, ns.map poolNum, 0, 0, 17, upd_same, upd_same, ?_, by decide, by decide, by decide, by decide⟩
      · rw [List.take_of_length_le (Nat.le_refl _)]
        exact same_new (by rw [upd_ne hpD]; exact hpn)
      · rw [upd_ne hpD]
        exact hpn
      · intro z hz
        obtain ⟨y, _, rfl⟩ := List.mem_map.mp hz
        exact poolNum_nn y
/-! a draw -/
def spTake (C : Int → Prop) : Sp := fun vs H Q _ => ∃ (p : Addr) (m : Int) (c : Addr) (cells : List Int) (i d x : Int), vs = [.ref p, .int m] ∧ 0 < m ∧ m < 1073741824 ∧
  H p = some (.lst [.ref c, .int i, .int d, .int x]) ∧ H c = some (.lst (cells.map V.int)) ∧ c ≠ p ∧ (∀ z ∈ cells, 0 ≤ z) ∧ 0 ≤ i ∧ 0 ≤ d ∧ 0 ≤ x ∧ x < 2147483647 ∧ C d ∧
  ∀ r i' d' x', 0 ≤ r → r < m → 0 ≤ i' → 0 ≤ d' → 0 ≤ x' → x' < 2147483647 → Q (.int r) (upd H p (.lst [.ref c, .int i', .int d', .int x']))
theorem ok_law_take0 (T : Txt K mg a) : FnOk P w K mg base CX0 1 a.a_law_take a.d_law_take ["pool", "many"] (spTake (fun d => 0 < d)) := by
  refine T.F_law_take.ok sc_law_take (fun vs H Q E h => ?_) (fun cdv A outer s H vs Q E hr h => ?_)
  · obtain ⟨p, m, c, cells, i, d, x, rfl, _⟩ := h
    rfl
  · obtain ⟨p, m, c, cells, i, d, x, rfl, hm, hm2, hp, hc, hcp, hcl, hi, hd, hx, hx2, hP, q⟩ := h
    refine ⟨_, (pss_cons (ps_if (pt_cmpR op_gt (pe_ix ixH (pv 0) pe_int (fun _ _ => rfl)) pe_int (nomark _))
      (pss_cons (ps_set (i := 2) sc_law_take.nd rfl (.inl rfl) (pe_op op_mod (pe_callTy callInt (by rfl) T.z_int (by decide +kernel) (pa_cons (pe_ix ixH (pv 0) pe_int (fun _ _ => rfl)) pa_nil)) (pv 1)))
      (pss_cons (ps_asg (pe_op op_fdiv (pe_ix ixH (pv 0) pe_int (fun _ _ => rfl)) (pv 1)) (pg_sub (pv 0) pe_int setH))
      (pss_one (ps_ret (pv 2)))))
      pss_nil)
      pss_never), ?_⟩
    simp only [tSeq, tAsg, tRet, tRetN, tDrop, tIfS, tNext, tNever, tOp, tUn, tVar, tC, rI0, rI, rU, tTest, tIf, tB, tAnd, tOr, tNot, tAndV, tOrV, tNotV, gName, gSub, gTupH, gCons, gNil, tYes, tCons, tNil, tLst, tTup, tCB, tCall, tMeth, tMake, tFld, sFld, tFor_c, tLc_c, iRng1, iList, iTup, iStr, iSeqB, iEnumB, tM1, tSl, tPart, tNoPart, rSlS, rIxS, tBM, rAppend, tIf, rEq, rNe, scal, hIx, hIxT, hIxB, hSet, hInt, hIntB, hLen, hLenT, hLenB, L2.start, wipe, List.map_cons, List.map_nil, List.set_cons_zero, List.set_cons_succ, List.set_nil, List.length_cons, List.length_nil, List.length_map, List.cons_append, List.nil_append, List.append_nil, List.replicate, List.getElem?_cons_zero, List.getElem?_cons_succ, Option.some.injEq, V.int.injEq, V.bl.injEq, V.ref.injEq, V.str.injEq, List.cons.injEq, exists_eq_left', exists_eq_left, exists_and_left, and_assoc, upd_same, upd_upd, HO.lst.injEq, HO.tup.injEq, atI_0, atI_1, atI_2, atI_3, set_1, set_2, set_3, CDiv, CPow, CMul, List.length_set, Int.reduceToNat, Int.reduceLE, Int.reduceLT, Int.reducePow, Int.reduceNeg, Nat.reduceAdd, Nat.reduceLT, Nat.reduceLeDiff, Nat.reducePow, Nat.zero_add, or_true, true_or, gt_iff_lt, ge_iff_le, and_true, true_and, decide_eq_true_eq, if_true, Bool.false_eq_true, if_false, *]
    exact q _ _ _ _ (Int.emod_nonneg _ (by omega)) (Int.emod_lt_of_pos _ hm) hi (Int.ediv_nonneg hd (by omega)) hx hx2
theorem ok_law_take (T : Txt K mg a) : FnOk P w K mg base CX0 2 a.a_law_take a.d_law_take ["pool", "many"] (spTake (fun _ => True)) := by
  have G_law_take : FnOk P w K mg base CX0 1 a.a_law_take a.d_law_take ["pool", "many"] (spTake (fun d => 0 < d)) := ok_law_take0 T
  refine T.F_law_take.ok sc_law_take (fun vs H Q E h => ?_) (fun cdv A outer s H vs Q E hr h => ?_)
  · obtain ⟨p, m, c, cells, i, d, x, rfl, _⟩ := h
    rfl
  · obtain ⟨p, m, c, cells, i, d, x, rfl, hm, hm2, hp, hc, hcp, hcl, hi, hd, hx, hx2, hP, q⟩ := h
    refine ⟨_, (pss_cons (ps_if (pt_cmpR op_gt (pe_ix ixH (pv 0) pe_int (fun _ _ => rfl)) pe_int (nomark _))
      (pss_cons (ps_set (i := 2) sc_law_take.nd rfl (.inl rfl) (pe_op op_mod (pe_callTy callInt (by rfl) T.z_int (by decide +kernel) (pa_cons (pe_ix ixH (pv 0) pe_int (fun _ _ => rfl)) pa_nil)) (pv 1)))
      (pss_cons (ps_asg (pe_op op_fdiv (pe_ix ixH (pv 0) pe_int (fun _ _ => rfl)) (pv 1)) (pg_sub (pv 0) pe_int setH))
      (pss_one (ps_ret (pv 2)))))
      pss_nil)
      (pss_cons (ps_set (i := 3) sc_law_take.nd rfl (.inl rfl) pe_int)
      (pss_cons (ps_if (pt_cmpR op_lt (pe_ix ixH (pv 0) pe_int (fun _ _ => rfl)) (pe_callB callLen (by rfl) T.z_len PySem.boot_len (pa_cons (pe_ix ixH (pv 0) pe_int (fun _ _ => rfl)) pa_nil)) (nomark _))
      (pss_one (ps_set (i := 3) sc_law_take.nd rfl (.inl rfl) (pe_ix ixH (pe_ix ixH (pv 0) pe_int (fun _ _ => rfl)) (pe_ix ixH (pv 0) pe_int (fun _ _ => rfl)) (fun _ _ => rfl))))
      pss_nil)
      (pss_cons (ps_asg (pe_op op_add (pe_ix ixH (pv 0) pe_int (fun _ _ => rfl)) pe_int) (pg_sub (pv 0) pe_int setH))
      (pss_cons (ps_if (pt_cmpR op_ge (pv 3) (pe_op powH pe_int pe_int) (nomark _))
      (pss_cons (ps_asg (pe_op op_fdiv (pv 3) pe_int) (pg_sub (pv 0) pe_int setH))
      (pss_one (ps_ret (pe_call G_law_take (hr.mono (by first | decide | exact Nat.le_refl _ | omega)) (by rfl) T.g_law_take T.F_law_take.kp T.b_law_take .nil pass0 (pa_cons (pv 0) (pa_cons (pv 1) pa_nil))))))
      pss_nil)
      (pss_cons (ps_asg (pe_op op_mod (pe_callTy callInt (by rfl) T.z_int (by decide +kernel) (pa_cons (pe_op op_add (pe_op op_add (pe_op op_mul (pe_ix ixH (pv 0) pe_int (fun _ _ => rfl)) pe_int) (pe_op op_mul (pv 3) pe_int)) (pe_op op_mul (pe_ix ixH (pv 0) pe_int (fun _ _ => rfl)) pe_int)) pa_nil)) pe_int) (pg_sub (pv 0) pe_int setH))
      (pss_cons (ps_set (i := 4) sc_law_take.nd rfl (.inl rfl) (pe_op op_mod (pe_callTy callInt (by rfl) T.z_int (by decide +kernel) (pa_cons (pe_op op_add (pe_op op_add (pe_op op_mul (pe_ix ixH (pv 0) pe_int (fun _ _ => rfl)) (pe_ix ixH (pv 0) pe_int (fun _ _ => rfl))) (pe_op op_mul (pe_ix ixH (pv 0) pe_int (fun _ _ => rfl)) pe_int)) pe_int) pa_nil)) pe_int))
      (pss_one (ps_ret (pe_op op_mod (pe_callTy callInt (by rfl) T.z_int (by decide +kernel) (pa_cons (pe_op op_fdiv (pv 4) pe_int) pa_nil)) (pv 1))))))))))), ?_⟩
    simp only [tSeq, tAsg, tRet, tRetN, tDrop, tIfS, tNext, tNever, tOp, tUn, tVar, tC, rI0, rI, rU, tTest, tIf, tB, tAnd, tOr, tNot, tAndV, tOrV, tNotV, gName, gSub, gTupH, gCons, gNil, tYes, tCons, tNil, tLst, tTup, tCB, tCall, tMeth, tMake, tFld, sFld, tFor_c, tLc_c, iRng1, iList, iTup, iStr, iSeqB, iEnumB, tM1, tSl, tPart, tNoPart, rSlS, rIxS, tBM, rAppend, tIf, rEq, rNe, scal, hIx, hIxT, hIxB, hSet, hInt, hIntB, hLen, hLenT, hLenB, L2.start, wipe, List.map_cons, List.map_nil, List.set_cons_zero, List.set_cons_succ, List.set_nil, List.length_cons, List.length_nil, List.length_map, List.cons_append, List.nil_append, List.append_nil, List.replicate, List.getElem?_cons_zero, List.getElem?_cons_succ, Option.some.injEq, V.int.injEq, V.bl.injEq, V.ref.injEq, V.str.injEq, List.cons.injEq, exists_eq_left', exists_eq_left, exists_and_left, and_assoc, upd_same, upd_upd, HO.lst.injEq, HO.tup.injEq, atI_0, atI_1, atI_2, atI_3, set_1, set_2, set_3, CDiv, CPow, CMul, List.length_set, Int.reduceToNat, Int.reduceLE, Int.reduceLT, Int.reducePow, Int.reduceNeg, Nat.reduceAdd, Nat.reduceLT, Nat.reduceLeDiff, Nat.reducePow, Nat.zero_add, or_true, true_or, gt_iff_lt, ge_iff_le, and_true, true_and, decide_eq_true_eq, if_true, Bool.false_eq_true, if_false, *]
    have big : ∀ y : Int, (-18446744073709551616 < y % 2147483647 ∧ y % 2147483647 < 18446744073709551616) := fun y => by omega
    have fin : ∀ y z : Int, 0 ≤ y % 1000000007 / 3 % m ∧ y % 1000000007 / 3 % m < m := fun y z => ⟨Int.emod_nonneg _ (by omega), Int.emod_lt_of_pos _ hm⟩
    have fx : ∀ y : Int, 0 ≤ y % 2147483647 ∧ y % 2147483647 < 2147483647 := fun y => by omega
    refine ite2 (fun c1 => ?_) (fun c1 => ?_)
    · exact q _ _ _ _ (Int.emod_nonneg _ (by omega)) (Int.emod_lt_of_pos _ hm) hi (Int.ediv_nonneg hd (by omega)) hx hx2
    · refine ite2 (fun c2 => ?_) (fun c2 => ?_)
      · have hlt : i.toNat < cells.length := by omega
        have hz : (cells.map V.int)[i.toNat]? = some (.int cells[i.toNat]) := by
          rw [List.getElem?_map, List.getElem?_eq_getElem hlt]
          rfl
        have hnn : 0 ≤ cells[i.toNat] := hcl _ (List.getElem_mem hlt)
        refine ⟨_, by rw [← Int.toNat_of_nonneg hi]; exact atI_nat hz, _, rfl, ?_⟩
        refine ite2 (fun c3 => ?_) (fun c3 => ?_)
        · refine ⟨_, rfl, ?_⟩
          refine ⟨p, m, c, cells, i + 1, cells[i.toNat] / 2, x, rfl, hm, hm2, upd_same, by rw [upd_ne hcp]; exact hc, hcp, hcl, by omega, by omega, hx, hx2, by omega, ?_⟩
          intro r i' d' x' h1 h2 h3 h4 h5 h6
          rw [upd_upd]
          exact q r i' d' x' h1 h2 h3 h4 h5 h6
        · refine ⟨_, rfl, .inl (big _), ?_⟩
          exact q _ _ _ _ (fin _ 0).1 (fin _ 0).2 (by omega) hd (fx _).1 (fx _).2
      · refine ⟨.inl (big _), ?_⟩
        exact q _ _ _ _ (fin _ 0).1 (fin _ 0).2 (by omega) hd (fx _).1 (fx _).2
end
end AK
set_option Elab.async false
set_option linter.all false
set_option maxRecDepth 100000
set_option maxHeartbeats 4000000
namespace AK
open PySem PySem.Spec PyProof.Rows L2
/-- the pool at p, its cells at c -/
structure PoolAt (H : Hp) (p c : Addr) : Prop where
  ne : c ≠ p
  ex : ∃ (cells : List Int) (i d x : Int), H p = some (.lst [.ref c, .int i, .int d, .int x]) ∧ H c = some (.lst (cells.map V.int)) ∧ (∀ z ∈ cells, 0 ≤ z) ∧ 0 ≤ i ∧ 0 ≤ d ∧ 0 ≤ x ∧ x < 2147483647
/-- all but what stands at p is kept -/
def Off1 (p : Addr) (H H' : Hp) : Prop := ∀ b o, b ≠ p → H b = some o → H' b = some o
theorem Off1.refl {p : Addr} {H : Hp} : Off1 p H H := fun _ _ _ e => e
theorem Off1.tr {p : Addr} {H H1 H2 : Hp} (a : Off1 p H H1) (b : Off1 p H1 H2) : Off1 p H H2 := fun x o h e => b x o h (a x o h e)
theorem Off1.of {p : Addr} {H H' : Hp} (s : Same H H') : Off1 p H H' := fun b o _ e => s b o e
theorem PoolAt.has {H : Hp} {p c : Addr} (h : PoolAt H p c) : ∃ o, H p = some o := by
  obtain ⟨_, _, _, _, e, _⟩ := h.ex
  exact ⟨_, e⟩
theorem PoolAt.same {H H' : Hp} {p c : Addr} (h : PoolAt H p c) (s : Same H H') : PoolAt H' p c := by
  obtain ⟨cells, i, d, x, h1, h2, h3⟩ := h.ex
  exact ⟨h.ne, cells, i, d, x, s _ _ h1, s _ _ h2, h3⟩
theorem PoolAt.new {H : Hp} {p c q : Addr} {o : HO} (h : PoolAt H p c) (hq : H q = none) : PoolAt (upd H q o) p c := h.same (same_new hq)
/-- a write at q, which is none of the pool's -/
theorem PoolAt.wr {H : Hp} {p c q : Addr} {o : HO} (h : PoolAt H p c) (h1 : q ≠ p) (h2 : q ≠ c) : PoolAt (upd H q o) p c := by
  obtain ⟨cells, i, d, x, e1, e2, e3⟩ := h.ex
  exact ⟨h.ne, cells, i, d, x, by rw [upd_ne h1.symm]; exact e1, by rw [upd_ne h2.symm]; exact e2, e3⟩
theorem Off1.new {p q : Addr} {H H' : Hp} {o : HO} (h : Off1 p H H') (hq : H' q = none) : Off1 p H (upd H' q o) := h.tr (.of (same_new hq))
/-- a write at an address that H does not hold -/
theorem Off1.wr {p q : Addr} {H H' : Hp} {o : HO} (h : Off1 p H H') (hq : H q = none) : Off1 p H (upd H' q o) := fun b u hb e => by
  rw [upd_ne (ne_of_none e hq)]
  exact h b u hb e
theorem Off1.fresh {p q c : Addr} {H H1 : Hp} (h : Off1 p H H1) (hp : PoolAt H1 p c) (hq : H1 q = none) : H q = none := by
  cases e : H q with
  | none => rfl
  | some o =>
    by_cases z : q = p
    · obtain ⟨o', e'⟩ := hp.has
      rw [z, e'] at hq
      cases hq
    · rw [h q o z e] at hq
      cases hq
theorem PoolAt.ne_p {H : Hp} {p c q : Addr} (h : PoolAt H p c) (hq : H q = none) : q ≠ p := fun z => by
  obtain ⟨o, e⟩ := h.has
  rw [z, e] at hq
  cases hq
theorem PoolAt.ne_c {H : Hp} {p c q : Addr} (h : PoolAt H p c) (hq : H q = none) : q ≠ c := fun z => by
  obtain ⟨_, _, _, _, _, e, _⟩ := h.ex
  rw [z, e] at hq
  cases hq
theorem tab_off {H H' : Hp} {tb p c : Addr} (h : GxR.TabG H tb) (k : PoolAt H p c) (s : Off1 p H H') : GxR.TabG H' tb := by
  obtain ⟨ps, e, t⟩ := h
  refine ⟨ps, s _ _ (fun z => ?_) e, t⟩
  obtain ⟨_, _, _, _, e1, _⟩ := k.ex
  rw [← z, e] at e1
  cases e1
theorem take_pool {H : Hp} {p c : Addr} {m : Int} {Q : VK} {E : XK} (h : PoolAt H p c) (h0 : 0 < m) (h1 : m < 1073741824) (q : ∀ r H', 0 ≤ r → r < m → Off1 p H H' → (∀ b, b ≠ p → H' b = H b) → PoolAt H' p c → Q (.int r) H') :
    spTake (fun _ => True) [.ref p, .int m] H Q E := by
  obtain ⟨cells, i, d, x, e1, e2, e3, e4, e5, e6, e7⟩ := h.ex
  refine ⟨p, m, c, cells, i, d, x, rfl, h0, h1, e1, e2, h.ne, e3, e4, e5, e6, e7, trivial, fun r i' d' x' r0 r1 i0 d0 x0 x1 => q r _ r0 r1 (fun b o hb e => ?_) (fun b hb => upd_ne hb) ⟨h.ne, cells, i', d', x', upd_same, ?_, e3, i0, d0, x0, x1⟩⟩
  · rw [upd_ne hb]
    exact e
  · rw [upd_ne h.ne]
    exact e2
/-! ### texts that are drawn -/
theorem la (y z : Str) : (y ++ z).length = y.length + z.length := by
  show (y.cps ++ z.cps).size = _
  rw [Array.size_append]
  rfl
theorem tx_app (l m : List Nat) : tx l ++ tx m = tx (l ++ m) := by
  show (⟨l.toArray ++ m.toArray⟩ : Str) = _
  unfold tx
  simp
theorem join_tx : ∀ l : List Nat, Str.join Str.empty (l.map fun c => tx [c]) = tx l
  | [] => rfl
  | [c] => rfl
  | c :: d :: l => by
    have ih := join_tx (d :: l)
    show tx [c] ++ Str.empty ++ Str.join Str.empty ((d :: l).map fun c => tx [c]) = _
    rw [ih, show Str.empty = tx [] from rfl, tx_app, tx_app]
    rfl
theorem sum_one : ∀ l : List Nat, ((l.map fun c => tx [c]).map (·.length)).sum = l.length
  | [] => rfl
  | c :: l => by
    rw [List.map_cons, List.map_cons, List.sum_cons, sum_one l, List.length_cons, len_tx]
    simp [Nat.add_comm]
theorem asc_sub : ∀ (l b : List Nat), b.Nodup → l.Sublist b → asc b l = true
  | [], b, _, _ => asc_nil b
  | c :: l, b, hn, hs => by
    have hm : c ∈ b := hs.subset (List.mem_cons_self ..)
    obtain ⟨p, q, e1, e2, e3⟩ := split_at hm
    have key : ∀ p : List Nat, c ∉ p → (c :: l).Sublist (p ++ c :: q) → l.Sublist q := by
      intro p
      induction p with
      | nil =>
        intro _ h
        exact List.cons_sublist_cons.mp h
      | cons y p ih =>
        intro hp h
        cases h with
        | cons _ h' => exact ih (fun z => hp (List.mem_cons_of_mem _ z)) h'
        | cons_cons _ h' => exact absurd (List.mem_cons_self ..) hp
    rw [asc_cons, decide_eq_true hm, Bool.true_and, e3]
    rw [e1] at hs hn
    refine asc_sub l q ?_ (key p e2 hs)
    have := (List.nodup_append.mp hn).2.1
    exact (List.nodup_cons.mp this).2
end AK
set_option Elab.async false
set_option linter.all false
set_option maxRecDepth 100000
set_option maxHeartbeats 4000000
namespace AK
open PySem PySem.Spec PyProof.Rows L2
theorem rep_snoc (i : Nat) : (List.replicate i true).map V.bl ++ [V.bl true] = V.bl true :: (List.replicate i true).map V.bl := by
  rw [List.map_replicate, ← List.replicate_succ', List.replicate_succ]
/-- the same data, of a depth of n at most -/
inductive SameD (H : Hp) : Nat → V → V → Prop where
  | non (n : Nat) : SameD H n .non .non
  | bl (n : Nat) (b : Bool) : SameD H n (.bl b) (.bl b)
  | int (n : Nat) (i : Int) : SameD H n (.int i) (.int i)
  | str (n : Nat) (x : Str) : SameD H n (.str x) (.str x)
  | tup {n : Nat} {p q : Addr} {xs ys : List V} (e1 : H p = some (.tup xs)) (e2 : H q = some (.tup ys)) (l : xs.length = ys.length) (l2 : ys.length ≤ 900) (h : ∀ (i : Nat) (x y : V), xs[i]? = some x → ys[i]? = some y → SameD H n x y) : SameD H (n + 1) (.ref p) (.ref q)
  | lst {n : Nat} {p q : Addr} {xs ys : List V} (e1 : H p = some (.lst xs)) (e2 : H q = some (.lst ys)) (l : xs.length = ys.length) (l2 : ys.length ≤ 900) (h : ∀ (i : Nat) (x y : V), xs[i]? = some x → ys[i]? = some y → SameD H n x y) : SameD H (n + 1) (.ref p) (.ref q)
theorem SameD.same {H H' : Hp} (s : Same H H') {n : Nat} {x y : V} (h : SameD H n x y) : SameD H' n x y := by
  induction h with
  | non n => exact .non n
  | bl n b => exact .bl n b
  | int n i => exact .int n i
  | str n x => exact .str n x
  | tup e1 e2 l l2 _ ih => exact .tup (s _ _ e1) (s _ _ e2) l l2 ih
  | lst e1 e2 l l2 _ ih => exact .lst (s _ _ e1) (s _ _ e2) l l2 ih
theorem isi_of {K : PySem.W.Frag} {H : Hp} {x : V} {t : Value} {T : String} {b : Bool} {Q : VK} (h : TyOf K H x t) (e : PySem.W.kitOne K t (.type T) = some b) (q : Q (.bl b) H) : rIsi K [x, .ty T] H Q := ⟨x, .ty T, t, _, b, rfl, .ty T, .base h, e, q⟩
section
variable {P : Program} {w : World} {K : PySem.W.Frag} {mg : Str → Option Value} {base : Heap} {a : Ads}
def spInt : Sp := fun vs H Q _ => ∃ i : Int, vs = [.int i] ∧ Q (.bl true) H
theorem ok_law_is_integer (T : Txt K mg a) : FnOk P w K mg base CX0 1 a.a_law_is_integer a.d_law_is_integer ["actual"] spInt := by
  refine T.F_law_is_integer.ok sc_law_is_integer (fun vs H Q E h => ?_) (fun cdv A outer s H vs Q E hr h => ?_)
  · obtain ⟨_, rfl, _⟩ := h
    rfl
  · obtain ⟨i, rfl, q⟩ := h
    refine ⟨_, (pss_one (ps_ret (pe_and (pe_callB call_isi (by rfl) T.z_isinstance (by decide +kernel) (pa_cons (pv 0) (pa_cons (pe_bltn (v := .ty "int") (by rfl) T.z_int (by decide +kernel) rfl) pa_nil))) (pe_one (pe_not (pe_callB call_isi (by rfl) T.z_isinstance (by decide +kernel) (pa_cons (pv 0) (pa_cons (pe_bltn (v := .ty "bool") (by rfl) T.z_bool (by decide +kernel) rfl) pa_nil)))))))), ?_⟩
    simp only [tSeq, tAsg, tRet, tRetN, tDrop, tIfS, tNext, tNever, tOp, tUn, tVar, tC, rI0, rI, rU, tTest, tIf, tB, tAnd, tOr, tNot, tAndV, tOrV, tNotV, gName, gSub, gTupH, gCons, gNil, tYes, tCons, tNil, tLst, tTup, tCB, tCall, tMeth, tMake, tFld, sFld, tFor_c, tLc_c, iRng1, iList, iTup, iStr, iSeqB, iEnumB, tM1, tSl, tPart, tNoPart, rSlS, rIxS, tBM, rAppend, tIf, rEq, rNe, scal, hIx, hIxT, hIxB, hSet, hInt, hIntB, hLen, hLenT, hLenB, L2.start, wipe, List.map_cons, List.map_nil, List.set_cons_zero, List.set_cons_succ, List.set_nil, List.length_cons, List.length_nil, List.length_map, List.cons_append, List.nil_append, List.append_nil, List.replicate, List.getElem?_cons_zero, List.getElem?_cons_succ, Option.some.injEq, V.int.injEq, V.bl.injEq, V.ref.injEq, V.str.injEq, List.cons.injEq, exists_eq_left', exists_eq_left, exists_and_left, and_assoc, upd_same, upd_upd, HO.lst.injEq, HO.tup.injEq, atI_0, atI_1, atI_2, atI_3, set_1, set_2, set_3, CDiv, CPow, CMul, List.length_set, Int.reduceToNat, Int.reduceLE, Int.reduceLT, Int.reducePow, Int.reduceNeg, Nat.reduceAdd, Nat.reduceLT, Nat.reduceLeDiff, Nat.reducePow, Nat.zero_add, or_true, true_or, gt_iff_lt, ge_iff_le, and_true, true_and, decide_eq_true_eq, if_true, Bool.false_eq_true, if_false]
    refine isi_of (.int i) (by rfl) ⟨true, rfl, iteT (isi_of (.int i) (by rfl) ⟨false, rfl, q⟩)⟩
def spSame (n : Nat) : Sp := fun vs H Q _ => ∃ x y, vs = [x, y] ∧ SameD H n x y ∧ ∀ H', Same H H' → Q (.bl true) H'
theorem ok_same_core (T : Txt K mg a) (m k : Nat) (spI : Sp) (hk : 1 ≤ k) (G_law_same : FnOk P w K mg base CX0 k a.a_law_same a.d_law_same ["actual", "due"] spI) (hI : ∀ n, m = n + 1 → ∀ vs H Q E, spSame n vs H Q E → spI vs H Q E) :
    FnOk P w K mg base CX0 (k + 1) a.a_law_same a.d_law_same ["actual", "due"] (spSame m) := by
  have G_law_is_integer := (ok_law_is_integer (P := P) (w := w) (base := base) T).mono hk
  refine T.F_law_same.ok sc_law_same (fun vs H Q E h => ?_) (fun cdv A outer s H vs Q E hr h => ?_)
  · obtain ⟨_, _, rfl, _⟩ := h
    rfl
  · obtain ⟨x, y, rfl, hs, q⟩ := h
    refine ⟨_, (pss_cons (ps_if (pt_val (pe_callB call_isi (by rfl) T.z_isinstance (by decide +kernel) (pa_cons (pv 1) (pa_cons (pe_bltn (v := .ty "tuple") (by rfl) T.z_tuple (by decide +kernel) rfl) pa_nil))))
      (pss_cons (ps_if (PW.pt (pw_or (pt_not (pt_val (pe_callB call_isi (by rfl) T.z_isinstance (by decide +kernel) (pa_cons (pv 0) (pa_cons (pe_bltn (v := .ty "tuple") (by rfl) T.z_tuple (by decide +kernel) rfl) pa_nil))))) (pw_or1 (pt_cmpR op_ne (pe_callB callLenT (by rfl) T.z_len PySem.boot_len (pa_cons (pv 0) pa_nil)) (pe_callB callLenT (by rfl) T.z_len PySem.boot_len (pa_cons (pv 1) pa_nil)) (nomark _)))))
      (pss_one (ps_ret pe_bl))
      pss_nil)
      (pss_one (ps_ret (pe_callB (cr_all rfl) (by rfl) T.z_all (by decide +kernel) (pa_cons (pe_lc (own := [("k", 2)]) (g := gName 2) (tt := tYes) rfl sc_law_same.nd (pi_range1 (by rfl) T.z_range (pa_cons (pe_callB callLenT (by rfl) T.z_len PySem.boot_len (pa_cons (pv 1) pa_nil)) pa_nil)) (blkOk_by (own := [("k", 2)]) (N := sc_law_same_N) (sc := defScope s_law_same) (by decide +kernel)) (fun _ _ _ _ _ => (pg_name (i := 2) sc_law_same.nd rfl (.inl rfl))) (fun _ _ _ _ _ => pts_nil) (fun _ _ _ _ _ => (pe_call G_law_same (hr.mono (by first | decide | exact Nat.le_refl _ | omega)) (by rfl) T.g_law_same T.F_law_same.kp T.b_law_same .nil pass0 (pa_cons (pe_ix ixHT (pv 0) (pv 2) (fun _ _ => rfl)) (pa_cons (pe_ix ixHT (pv 1) (pv 2) (fun _ _ => rfl)) pa_nil))))) pa_nil)))))
      pss_nil)
      (pss_cons (ps_if (pt_val (pe_callB call_isi (by rfl) T.z_isinstance (by decide +kernel) (pa_cons (pv 1) (pa_cons (pe_bltn (v := .ty "list") (by rfl) T.z_list (by decide +kernel) rfl) pa_nil))))
      (pss_cons (ps_if (PW.pt (pw_or (pt_not (pt_val (pe_callB call_isi (by rfl) T.z_isinstance (by decide +kernel) (pa_cons (pv 0) (pa_cons (pe_bltn (v := .ty "list") (by rfl) T.z_list (by decide +kernel) rfl) pa_nil))))) (pw_or1 (pt_cmpR op_ne (pe_callB callLen (by rfl) T.z_len PySem.boot_len (pa_cons (pv 0) pa_nil)) (pe_callB callLen (by rfl) T.z_len PySem.boot_len (pa_cons (pv 1) pa_nil)) (nomark _)))))
      (pss_one (ps_ret pe_bl))
      pss_nil)
      (pss_one (ps_ret (pe_callB (cr_all rfl) (by rfl) T.z_all (by decide +kernel) (pa_cons (pe_lc (own := [("k", 2)]) (g := gName 2) (tt := tYes) rfl sc_law_same.nd (pi_range1 (by rfl) T.z_range (pa_cons (pe_callB callLen (by rfl) T.z_len PySem.boot_len (pa_cons (pv 1) pa_nil)) pa_nil)) (blkOk_by (own := [("k", 2)]) (N := sc_law_same_N) (sc := defScope s_law_same) (by decide +kernel)) (fun _ _ _ _ _ => (pg_name (i := 2) sc_law_same.nd rfl (.inl rfl))) (fun _ _ _ _ _ => pts_nil) (fun _ _ _ _ _ => (pe_call G_law_same (hr.mono (by first | decide | exact Nat.le_refl _ | omega)) (by rfl) T.g_law_same T.F_law_same.kp T.b_law_same .nil pass0 (pa_cons (pe_ix ixH (pv 0) (pv 2) (fun _ _ => rfl)) (pa_cons (pe_ix ixH (pv 1) (pv 2) (fun _ _ => rfl)) pa_nil))))) pa_nil)))))
      pss_nil)
      (pss_cons (ps_if (pt_cmpR op_isN (pv 1) pe_non (nomark _))
      (pss_one (ps_ret (pe_cmpR op_isN (pv 0) pe_non (nomark _))))
      pss_nil)
      (pss_cons (ps_if (pt_val (pe_callB call_isi (by rfl) T.z_isinstance (by decide +kernel) (pa_cons (pv 1) (pa_cons (pe_bltn (v := .ty "bool") (by rfl) T.z_bool (by decide +kernel) rfl) pa_nil))))
      (pss_one (ps_ret (pe_and (pe_callB call_isi (by rfl) T.z_isinstance (by decide +kernel) (pa_cons (pv 0) (pa_cons (pe_bltn (v := .ty "bool") (by rfl) T.z_bool (by decide +kernel) rfl) pa_nil))) (pe_one (pe_cmpR op_eq (pv 0) (pv 1) (nomark _))))))
      pss_nil)
      (pss_cons (ps_if (pt_val (pe_callB call_isi (by rfl) T.z_isinstance (by decide +kernel) (pa_cons (pv 1) (pa_cons (pe_bltn (v := .ty "str") (by rfl) T.z_str (by decide +kernel) rfl) pa_nil))))
      (pss_one (ps_ret (pe_and (pe_callB call_isi (by rfl) T.z_isinstance (by decide +kernel) (pa_cons (pv 0) (pa_cons (pe_bltn (v := .ty "str") (by rfl) T.z_str (by decide +kernel) rfl) pa_nil))) (pe_one (pe_cmpR op_eq (pv 0) (pv 1) (nomark _))))))
      pss_nil)
      (pss_one (ps_ret (pe_and (pe_call G_law_is_integer (hr.mono (by first | decide | exact Nat.le_refl _ | omega)) (by rfl) T.g_law_is_integer T.F_law_is_integer.kp T.b_law_is_integer .nil pass0 (pa_cons (pv 0) pa_nil)) (pe_one (pe_cmpR op_eq (pv 0) (pv 1) (nomark _))))))))))), ?_⟩
    have q0 := q H (Same.refl _)
    simp only [tSeq, tAsg, tRet, tRetN, tDrop, tIfS, tNext, tNever, tOp, tUn, tVar, tC, rI0, rI, rU, tTest, tIf, tB, tAnd, tOr, tNot, tAndV, tOrV, tNotV, gName, gSub, gTupH, gCons, gNil, tYes, tCons, tNil, tLst, tTup, tCB, tCall, tMeth, tMake, tFld, sFld, tFor_c, tLc_c, iRng1, iList, iTup, iStr, iSeqB, iEnumB, tM1, tSl, tPart, tNoPart, rSlS, rIxS, tBM, rAppend, tIf, rEq, rNe, scal, hIx, hIxT, hIxB, hSet, hInt, hIntB, hLen, hLenT, hLenB, L2.start, wipe, List.map_cons, List.map_nil, List.set_cons_zero, List.set_cons_succ, List.set_nil, List.length_cons, List.length_nil, List.length_map, List.cons_append, List.nil_append, List.append_nil, List.replicate, List.getElem?_cons_zero, List.getElem?_cons_succ, Option.some.injEq, V.int.injEq, V.bl.injEq, V.ref.injEq, V.str.injEq, List.cons.injEq, exists_eq_left', exists_eq_left, exists_and_left, and_assoc, upd_same, upd_upd, HO.lst.injEq, HO.tup.injEq, atI_0, atI_1, atI_2, atI_3, set_1, set_2, set_3, CDiv, CPow, CMul, List.length_set, Int.reduceToNat, Int.reduceLE, Int.reduceLT, Int.reducePow, Int.reduceNeg, Nat.reduceAdd, Nat.reduceLT, Nat.reduceLeDiff, Nat.reducePow, Nat.zero_add, or_true, true_or, gt_iff_lt, ge_iff_le, and_true, true_and, decide_eq_true_eq, if_true, Bool.false_eq_true, if_false]
    cases hs with
    | non n =>
      refine isi_of .non (by rfl) ⟨false, rfl, iteF (isi_of .non (by rfl) ⟨false, rfl, iteF ?_⟩)⟩
      rw [if_pos rfl, decide_eq_true rfl]
      exact q0
    | bl n b =>
      refine isi_of (.bl b) (by rfl) ⟨false, rfl, iteF (isi_of (.bl b) (by rfl) ⟨false, rfl, iteF ?_⟩)⟩
      rw [if_neg (fun z => by cases z)]
      refine isi_of (.bl b) (by rfl) ⟨true, rfl, iteT (isi_of (.bl b) (by rfl) ⟨true, rfl, iteT ⟨rfl, ?_⟩⟩)⟩
      rw [decide_eq_true rfl]
      exact q0
    | int n i =>
      refine isi_of (.int i) (by rfl) ⟨false, rfl, iteF (isi_of (.int i) (by rfl) ⟨false, rfl, iteF ?_⟩)⟩
      rw [if_neg (fun z => by cases z)]
      refine isi_of (.int i) (by rfl) ⟨false, rfl, iteF (isi_of (.int i) (by rfl) ⟨false, rfl, iteF ?_⟩)⟩
      refine ⟨i, rfl, true, rfl, iteT ⟨rfl, ?_⟩⟩
      rw [decide_eq_true rfl]
      exact q0
    | str n x =>
      refine isi_of (.str x) (by rfl) ⟨false, rfl, iteF (isi_of (.str x) (by rfl) ⟨false, rfl, iteF ?_⟩)⟩
      rw [if_neg (fun z => by cases z)]
      refine isi_of (.str x) (by rfl) ⟨false, rfl, iteF (isi_of (.str x) (by rfl) ⟨true, rfl, iteT (isi_of (.str x) (by rfl) ⟨true, rfl, iteT ⟨rfl, ?_⟩⟩)⟩)⟩
      rw [decide_eq_true rfl]
      exact q0
    | @tup n p1 p2 xs ys e1 e2 l l2 h =>
      refine isi_of (.tup e2) (by rfl) ⟨true, rfl, iteT (isi_of (.tup e1) (by rfl) ⟨true, rfl, ?_⟩)⟩
      refine iteF ⟨p1, rfl, _, e1, p2, rfl, _, e2, ?_⟩
      rw [decide_eq_true (by rw [l])]
      refine iteF ⟨p2, rfl, _, e2, by omega, by omega, ?_⟩
      refine lcRng (fun i D H' => H' D = some (.lst ((List.replicate i true).map V.bl)) ∧ Same H H') (fun D hD => ⟨upd_same, same_new hD⟩) ?_ ?_
      · rintro i D H' hD hi ⟨eD, s1⟩
        have hi' : i < ys.length := by omega
        have ei : (0 : Int) + (i : Nat) = (i : Nat) := Int.zero_add _
        have ax : xs[i]? = some (xs[i]'(by omega)) := List.getElem?_eq_getElem _
        have ay : ys[i]? = some ys[i] := List.getElem?_eq_getElem hi'
        refine ⟨rfl, ?_⟩
        simp only [tSeq, tAsg, tRet, tRetN, tDrop, tIfS, tNext, tNever, tOp, tUn, tVar, tC, rI0, rI, rU, tTest, tIf, tB, tAnd, tOr, tNot, tAndV, tOrV, tNotV, gName, gSub, gTupH, gCons, gNil, tYes, tCons, tNil, tLst, tTup, tCB, tCall, tMeth, tMake, tFld, sFld, tFor_c, tLc_c, iRng1, iList, iTup, iStr, iSeqB, iEnumB, tM1, tSl, tPart, tNoPart, rSlS, rIxS, tBM, rAppend, tIf, rEq, rNe, scal, hIx, hIxT, hIxB, hSet, hInt, hIntB, hLen, hLenT, hLenB, L2.start, wipe, List.map_cons, List.map_nil, List.set_cons_zero, List.set_cons_succ, List.set_nil, List.length_cons, List.length_nil, List.length_map, List.cons_append, List.nil_append, List.append_nil, List.replicate, List.getElem?_cons_zero, List.getElem?_cons_succ, Option.some.injEq, V.int.injEq, V.bl.injEq, V.ref.injEq, V.str.injEq, List.cons.injEq, exists_eq_left', exists_eq_left, exists_and_left, and_assoc, upd_same, upd_upd, HO.lst.injEq, HO.tup.injEq, atI_0, atI_1, atI_2, atI_3, set_1, set_2, set_3, CDiv, CPow, CMul, List.length_set, Int.reduceToNat, Int.reduceLE, Int.reduceLT, Int.reducePow, Int.reduceNeg, Nat.reduceAdd, Nat.reduceLT, Nat.reduceLeDiff, Nat.reducePow, Nat.zero_add, or_true, true_or, gt_iff_lt, ge_iff_le, and_true, true_and, decide_eq_true_eq, if_true, Bool.false_eq_true, if_false]
        refine ⟨_, s1 _ _ e1, _, by rw [ei]; exact atI_nat ax, _, s1 _ _ e2, _, by rw [ei]; exact atI_nat ay, ?_⟩
        refine hI n rfl _ _ _ _ ⟨_, _, rfl, (h i _ _ ax ay).same s1, fun H2 s2 => ?_⟩
        refine ⟨_, s2 _ _ eD, by rw [List.length_map, List.length_replicate]; exact small1000 (by omega), ?_, same_out (Same.tr s1 s2) hD⟩
        exact rep_snoc i
      · rintro D H' hD ⟨eD, s1⟩
        refine ⟨D, _, rfl, SqL.of eD, ?_⟩
        rw [show (List.replicate ((ys.length : Nat) : Int).toNat true).all id = true from by simp]
        exact q H' s1
    | @lst n p1 p2 xs ys e1 e2 l l2 h =>
      refine isi_of (.lst e2) (by rfl) ⟨false, rfl, iteF (isi_of (.lst e2) (by rfl) ⟨true, rfl, iteT (isi_of (.lst e1) (by rfl) ⟨true, rfl, ?_⟩)⟩)⟩
      refine iteF ⟨p1, rfl, _, e1, p2, rfl, _, e2, ?_⟩
      rw [decide_eq_true (by rw [l])]
      refine iteF ⟨p2, rfl, _, e2, by omega, by omega, ?_⟩
      refine lcRng (fun i D H' => H' D = some (.lst ((List.replicate i true).map V.bl)) ∧ Same H H') (fun D hD => ⟨upd_same, same_new hD⟩) ?_ ?_
      · rintro i D H' hD hi ⟨eD, s1⟩
        have hi' : i < ys.length := by omega
        have ei : (0 : Int) + (i : Nat) = (i : Nat) := Int.zero_add _
        have ax : xs[i]? = some (xs[i]'(by omega)) := List.getElem?_eq_getElem _
        have ay : ys[i]? = some ys[i] := List.getElem?_eq_getElem hi'
        refine ⟨rfl, ?_⟩
        simp only [tSeq, tAsg, tRet, tRetN, tDrop, tIfS, tNext, tNever, tOp, tUn, tVar, tC, rI0, rI, rU, tTest, tIf, tB, tAnd, tOr, tNot, tAndV, tOrV, tNotV, gName, gSub, gTupH, gCons, gNil, tYes, tCons, tNil, tLst, tTup, tCB, tCall, tMeth, tMake, tFld, sFld, tFor_c, tLc_c, iRng1, iList, iTup, iStr, iSeqB, iEnumB, tM1, tSl, tPart, tNoPart, rSlS, rIxS, tBM, rAppend, tIf, rEq, rNe, scal, hIx, hIxT, hIxB, hSet, hInt, hIntB, hLen, hLenT, hLenB, L2.start, wipe, List.map_cons, List.map_nil, List.set_cons_zero, List.set_cons_succ, List.set_nil, List.length_cons, List.length_nil, List.length_map, List.cons_append, List.nil_append, List.append_nil, List.replicate, List.getElem?_cons_zero, List.getElem?_cons_succ, Option.some.injEq, V.int.injEq, V.bl.injEq, V.ref.injEq, V.str.injEq, List.cons.injEq, exists_eq_left', exists_eq_left, exists_and_left, and_assoc, upd_same, upd_upd, HO.lst.injEq, HO.tup.injEq, atI_0, atI_1, atI_2, atI_3, set_1, set_2, set_3, CDiv, CPow, CMul, List.length_set, Int.reduceToNat, Int.reduceLE, Int.reduceLT, Int.reducePow, Int.reduceNeg, Nat.reduceAdd, Nat.reduceLT, Nat.reduceLeDiff, Nat.reducePow, Nat.zero_add, or_true, true_or, gt_iff_lt, ge_iff_le, and_true, true_and, decide_eq_true_eq, if_true, Bool.false_eq_true, if_false]
        refine ⟨_, s1 _ _ e1, _, by rw [ei]; exact atI_nat ax, _, s1 _ _ e2, _, by rw [ei]; exact atI_nat ay, ?_⟩
        refine hI n rfl _ _ _ _ ⟨_, _, rfl, (h i _ _ ax ay).same s1, fun H2 s2 => ?_⟩
        refine ⟨_, s2 _ _ eD, by rw [List.length_map, List.length_replicate]; exact small1000 (by omega), ?_, same_out (Same.tr s1 s2) hD⟩
        exact rep_snoc i
      · rintro D H' hD ⟨eD, s1⟩
        refine ⟨D, _, rfl, SqL.of eD, ?_⟩
        rw [show (List.replicate ((ys.length : Nat) : Int).toNat true).all id = true from by simp]
        exact q H' s1
theorem ok_law_same (T : Txt K mg a) : ∀ n, FnOk P w K mg base CX0 (n + 2) a.a_law_same a.d_law_same ["actual", "due"] (spSame n)
  | 0 => ok_same_core T 0 1 (fun _ _ _ _ => False) (Nat.le_refl _) ⟨fun _ _ _ _ h => h.elim, fun _ _ _ _ _ _ _ _ _ _ _ _ _ h => h.elim⟩ fun _ h => by cases h
  | n + 1 => ok_same_core T (n + 1) (n + 2) (spSame n) (by omega) (ok_law_same T n) fun m h vs H Q E z => by
    cases h
    exact z
end
end AK
set_option Elab.async false
set_option linter.all false
set_option maxRecDepth 100000
set_option maxHeartbeats 4000000
namespace AK
open PySem PySem.Spec PyProof.Rows L2
theorem rowOff {p c r : Addr} {H H' : Hp} {xs : List V} (h : RowAt H r xs) (k : PoolAt H p c) (s : Off1 p H H') (ne : r ≠ p) : RowAt H' r xs := h.imp (s _ _ ne) (s _ _ ne)
theorem cut6 {m : Nat} : cutS ("abcdef" : Str) none (some (m : Int)) = tx (six.take m) := by
  rw [cut_take, show lt ("abcdef" : Str) = six from by decide +kernel]
section
variable {P : Program} {w : World} {K : PySem.W.Frag} {mg : Str → Option Value} {base : Heap} {a : Ads}
def spPick : Sp := fun vs H Q _ => ∃ (p c r : Addr) (xs : List V), vs = [.ref p, .ref r] ∧ PoolAt H p c ∧ H r = some (.lst xs) ∧ r ≠ p ∧ xs ≠ [] ∧ xs.length ≤ 900 ∧ ∀ x H', x ∈ xs → Off1 p H H' → PoolAt H' p c → Q x H'
theorem ok_law_pick (T : Txt K mg a) : FnOk P w K mg base CX0 3 a.a_law_pick a.d_law_pick ["pool", "rows"] spPick := by
  have G_law_take := ok_law_take (P := P) (w := w) (base := base) T
  refine T.F_law_pick.ok sc_law_pick (fun vs H Q E h => ?_) (fun cdv A outer s H vs Q E hr h => ?_)
  · obtain ⟨_, _, _, _, rfl, _⟩ := h
    rfl
  · obtain ⟨p, c, r, xs, rfl, hP, hr1, ne, h0, hl, q⟩ := h
    refine ⟨_, (pss_one (ps_ret (pe_ix ixH (pv 1) (pe_call G_law_take (hr.mono (by first | decide | exact Nat.le_refl _ | omega)) (by rfl) T.g_law_take T.F_law_take.kp T.b_law_take .nil pass0 (pa_cons (pv 0) (pa_cons (pe_callB callLen (by rfl) T.z_len PySem.boot_len (pa_cons (pv 1) pa_nil)) pa_nil))) (fun _ _ => rfl)))), ?_⟩
    simp only [tSeq, tAsg, tRet, tRetN, tDrop, tIfS, tNext, tNever, tOp, tUn, tVar, tC, rI0, rI, rU, tTest, tIf, tB, tAnd, tOr, tNot, tAndV, tOrV, tNotV, gName, gSub, gTupH, gCons, gNil, tYes, tCons, tNil, tLst, tTup, tCB, tCall, tMeth, tMake, tFld, sFld, tFor_c, tLc_c, iRng1, iList, iTup, iStr, iSeqB, iEnumB, tM1, tSl, tPart, tNoPart, rSlS, rIxS, tBM, rAppend, tIf, rEq, rNe, scal, hIx, hIxT, hIxB, hSet, hInt, hIntB, hLen, hLenT, hLenB, L2.start, wipe, List.map_cons, List.map_nil, List.set_cons_zero, List.set_cons_succ, List.set_nil, List.length_cons, List.length_nil, List.length_map, List.cons_append, List.nil_append, List.append_nil, List.replicate, List.getElem?_cons_zero, List.getElem?_cons_succ, Option.some.injEq, V.int.injEq, V.bl.injEq, V.ref.injEq, V.str.injEq, List.cons.injEq, exists_eq_left', exists_eq_left, exists_and_left, and_assoc, upd_same, upd_upd, HO.lst.injEq, HO.tup.injEq, atI_0, atI_1, atI_2, atI_3, set_1, set_2, set_3, CDiv, CPow, CMul, List.length_set, Int.reduceToNat, Int.reduceLE, Int.reduceLT, Int.reducePow, Int.reduceNeg, Nat.reduceAdd, Nat.reduceLT, Nat.reduceLeDiff, Nat.reducePow, Nat.zero_add, or_true, true_or, gt_iff_lt, ge_iff_le, and_true, true_and, decide_eq_true_eq, if_true, Bool.false_eq_true, if_false]
    have hpos : 0 < xs.length := List.length_pos_iff.mpr h0
    refine ⟨_, hr1, take_pool hP (by omega) (by omega) fun d H1 d0 d1 k1 _ p1 => ?_⟩
    refine ⟨_, _, rfl, k1 _ _ ne hr1, _, by rw [← Int.toNat_of_nonneg d0]; exact atI_nat (List.getElem?_eq_getElem (by omega)), ?_⟩
    exact q _ H1 (List.getElem_mem _) k1 p1
def spLPar : Sp := fun vs H Q _ => ∃ (p c : Addr) (n : Nat), vs = [.ref p, .int (n : Int)] ∧ PoolAt H p c ∧ ∀ m H', m < 64 → (n ≤ 6 → m < 2 ^ n) → Off1 p H H' → PoolAt H' p c → Q (.str (pt m)) H'
theorem ok_law_parity (T : Txt K mg a) : FnOk P w K mg base CX0 3 a.a_law_parity a.d_law_parity ["pool", "variables"] spLPar := by
  have G_law_take := ok_law_take (P := P) (w := w) (base := base) T
  refine T.F_law_parity.ok sc_law_parity (fun vs H Q E h => ?_) (fun cdv A outer s H vs Q E hr h => ?_)
  · obtain ⟨_, _, _, rfl, _⟩ := h
    rfl
  · obtain ⟨p, c, n, rfl, hP, q⟩ := h
    refine ⟨_, (pss_cons (ps_set (i := 2) sc_law_parity.nd rfl (.inl rfl) (pe_slice sl_str pe_str po_none (po_some (pv 1))))
      (pss_one (ps_ret (pe_join pe_str (pe_lc (own := [("letter", 3)]) (g := gName 3)  rfl sc_law_parity.nd (pi_str (pv 2)) (blkOk_by (own := [("letter", 3)]) (N := sc_law_parity_N) (sc := defScope s_law_parity) (by decide +kernel)) (fun _ _ _ _ _ => (pg_name (i := 3) sc_law_parity.nd rfl (.inl rfl))) (fun _ _ _ _ _ => (pts_one (pt_cmpR op_eq (pe_call G_law_take (hr.mono (by first | decide | exact Nat.le_refl _ | omega)) (by rfl) T.g_law_take T.F_law_take.kp T.b_law_take .nil pass0 (pa_cons (pv 0) (pa_cons pe_int pa_nil))) pe_int (nomark _)))) (fun _ _ _ _ _ => (pv 3))))))), ?_⟩
    simp only [tSeq, tAsg, tRet, tRetN, tDrop, tIfS, tNext, tNever, tOp, tUn, tVar, tC, rI0, rI, rU, tTest, tIf, tB, tAnd, tOr, tNot, tAndV, tOrV, tNotV, gName, gSub, gTupH, gCons, gNil, tYes, tCons, tNil, tLst, tTup, tCB, tCall, tMeth, tMake, tFld, sFld, tFor_c, tLc_c, iRng1, iList, iTup, iStr, iSeqB, iEnumB, tM1, tSl, tPart, tNoPart, rSlS, rIxS, tBM, rAppend, tIf, rEq, rNe, scal, hIx, hIxT, hIxB, hSet, hInt, hIntB, hLen, hLenT, hLenB, L2.start, wipe, List.map_cons, List.map_nil, List.set_cons_zero, List.set_cons_succ, List.set_nil, List.length_cons, List.length_nil, List.length_map, List.cons_append, List.nil_append, List.append_nil, List.replicate, List.getElem?_cons_zero, List.getElem?_cons_succ, Option.some.injEq, V.int.injEq, V.bl.injEq, V.ref.injEq, V.str.injEq, List.cons.injEq, exists_eq_left', exists_eq_left, exists_and_left, and_assoc, upd_same, upd_upd, HO.lst.injEq, HO.tup.injEq, atI_0, atI_1, atI_2, atI_3, set_1, set_2, set_3, CDiv, CPow, CMul, List.length_set, Int.reduceToNat, Int.reduceLE, Int.reduceLT, Int.reducePow, Int.reduceNeg, Nat.reduceAdd, Nat.reduceLT, Nat.reduceLeDiff, Nat.reducePow, Nat.zero_add, or_true, true_or, gt_iff_lt, ge_iff_le, and_true, true_and, decide_eq_true_eq, if_true, Bool.false_eq_true, if_false]
    have ej : Txt.join ("" : Str) = fun ys => Str.join Str.empty ys := funext fun ys => TL.join_eq _ ys
    refine ⟨by decide +kernel, ⟨_, rfl⟩, ?_⟩
    rw [show cutS (Str.ofString "abcdef") none (some (n : Int)) = tx (six.take n) from cut6]
    refine lcStr (x := tx (six.take n)) (fun i D H' => ∃ l : List Nat, H' D = some (.lst ((l.map fun c => tx [c]).map V.str)) ∧ l.Sublist ((six.take n).take i) ∧ Off1 p H H' ∧ PoolAt H' p c) ?_ ?_ ?_
    · intro D hD
      exact ⟨[], upd_same, List.nil_sublist _, Off1.refl.new hD, hP.new hD⟩
    · rintro i ch D H' hD hc ⟨l, eD, sub, k2, p2⟩
      have hc : (six.take n)[i]? = some ch := hc
      refine ⟨rfl, ?_⟩
      simp only [tSeq, tAsg, tRet, tRetN, tDrop, tIfS, tNext, tNever, tOp, tUn, tVar, tC, rI0, rI, rU, tTest, tIf, tB, tAnd, tOr, tNot, tAndV, tOrV, tNotV, gName, gSub, gTupH, gCons, gNil, tYes, tCons, tNil, tLst, tTup, tCB, tCall, tMeth, tMake, tFld, sFld, tFor_c, tLc_c, iRng1, iList, iTup, iStr, iSeqB, iEnumB, tM1, tSl, tPart, tNoPart, rSlS, rIxS, tBM, rAppend, tIf, rEq, rNe, scal, hIx, hIxT, hIxB, hSet, hInt, hIntB, hLen, hLenT, hLenB, L2.start, wipe, List.map_cons, List.map_nil, List.set_cons_zero, List.set_cons_succ, List.set_nil, List.length_cons, List.length_nil, List.length_map, List.cons_append, List.nil_append, List.append_nil, List.replicate, List.getElem?_cons_zero, List.getElem?_cons_succ, Option.some.injEq, V.int.injEq, V.bl.injEq, V.ref.injEq, V.str.injEq, List.cons.injEq, exists_eq_left', exists_eq_left, exists_and_left, and_assoc, upd_same, upd_upd, HO.lst.injEq, HO.tup.injEq, atI_0, atI_1, atI_2, atI_3, set_1, set_2, set_3, CDiv, CPow, CMul, List.length_set, Int.reduceToNat, Int.reduceLE, Int.reduceLT, Int.reducePow, Int.reduceNeg, Nat.reduceAdd, Nat.reduceLT, Nat.reduceLeDiff, Nat.reducePow, Nat.zero_add, or_true, true_or, gt_iff_lt, ge_iff_le, and_true, true_and, decide_eq_true_eq, if_true, Bool.false_eq_true, if_false]
      refine take_pool p2 (by decide) (by decide) fun d H1 d0 d1 k3 k3' p3 => ?_
      have hDp : D ≠ p := hP.ne_p hD
      have hDc : D ≠ c := hP.ne_c hD
      have eD3 : H1 D = some (.lst ((l.map fun c => tx [c]).map V.str)) := by rw [k3' D hDp]; exact eD
      refine ⟨rfl, ite2 (fun c1 => ?_) (fun c1 => ?_)⟩
      · refine ⟨_, eD3, ?_, l ++ [ch], ?_, ?_, (k2.tr k3).wr hD, p3.wr hDp hDc⟩
        · rw [List.length_map, List.length_map]
          have := (sub.trans ((List.take_sublist _ _).trans (List.take_sublist _ _))).length_le
          simp only [six, List.length_cons, List.length_nil] at this
          exact small1000 (by omega)
        · rw [List.map_append, List.map_append]
          rfl
        · rw [take_s hc]
          exact sub.append (List.Sublist.refl _)
      · refine ⟨l, eD3, ?_, k2.tr k3, p3⟩
        rw [take_s hc]
        exact sub.trans (List.sublist_append_left _ _)
    · rintro D H' hD ⟨l, eD, sub, k2, p2⟩
      have sub6' : l.Sublist six := sub.trans ((List.take_sublist _ _).trans (List.take_sublist _ _))
      refine ⟨D, rfl, l.map (fun c => tx [c]), .inl (SqL.of eD), ?_, ?_⟩
      · rw [sum_one, show (Str.ofString "").length = 0 from by decide +kernel, Nat.mul_zero]
        have := sub6'.length_le
        simp only [six, List.length_cons, List.length_nil] at this
        omega
      · rw [show Str.ofString "" = ("" : Str) from rfl, ej]
        simp only [join_tx]
        by_cases h6 : n ≤ 6
        · obtain ⟨m, hm, e⟩ := sub6v h6 (sub.trans (List.take_sublist _ _))
          rw [e]
          exact q m H' (Nat.lt_of_lt_of_le hm (Nat.pow_le_pow_right (n := 2) (by decide) h6)) (fun _ => hm) k2 p2
        · obtain ⟨m, hm, e⟩ := sub6 sub6'
          rw [e]
          exact q m H' hm (fun z => absurd z h6) k2 p2
def spLSum : Sp := fun vs H Q _ => ∃ (r : Addr) (m n : Nat), vs = [.ref r] ∧ H r = some (.lst [.str (pt m), .str (pt n)]) ∧ m < 64 ∧ n < 64 ∧ ∀ H', Same H H' → Q (.str (pt (m ^^^ n))) H'
theorem ok_law_sum (T : Txt K mg a) : FnOk P w K mg base CX0 1 a.a_law_sum a.d_law_sum ["texts"] spLSum := by
  refine T.F_law_sum.ok sc_law_sum (fun vs H Q E h => ?_) (fun cdv A outer s H vs Q E hr h => ?_)
  · obtain ⟨_, _, _, rfl, _⟩ := h
    rfl
  · obtain ⟨r, m, n, rfl, hr1, hm, hn, q⟩ := h
    refine ⟨_, (pss_cons (ps_set (i := 1) sc_law_sum.nd rfl (.inr rfl) (pe_join pe_str (pv 0)))
      (pss_one (ps_ret (pe_join pe_str (pe_lc (own := [("letter", 2)]) (g := gName 2)  rfl sc_law_sum.nd (pi_str pe_str) (blkOk_by (own := [("letter", 2)]) (N := sc_law_sum_N) (sc := defScope s_law_sum) (by decide +kernel)) (fun _ _ _ _ _ => (pg_name (i := 2) sc_law_sum.nd rfl (.inl rfl))) (fun _ _ _ _ _ => (pts_one (pt_cmpR op_eq (pe_op op_mod (pe_callTy callInt (by rfl) T.z_int (by decide +kernel) (pa_cons (pe_m1 PySem.F.slot_str_count PySem.F.type_str_count mt_count (pv 1) (pv 2)) pa_nil)) pe_int) pe_int (nomark _)))) (fun _ _ _ _ _ => (pv 2))))))), ?_⟩
    simp only [tSeq, tAsg, tRet, tRetN, tDrop, tIfS, tNext, tNever, tOp, tUn, tVar, tC, rI0, rI, rU, tTest, tIf, tB, tAnd, tOr, tNot, tAndV, tOrV, tNotV, gName, gSub, gTupH, gCons, gNil, tYes, tCons, tNil, tLst, tTup, tCB, tCall, tMeth, tMake, tFld, sFld, tFor_c, tLc_c, iRng1, iList, iTup, iStr, iSeqB, iEnumB, tM1, tSl, tPart, tNoPart, rSlS, rIxS, tBM, rAppend, tIf, rEq, rNe, scal, hIx, hIxT, hIxB, hSet, hInt, hIntB, hLen, hLenT, hLenB, L2.start, wipe, List.map_cons, List.map_nil, List.set_cons_zero, List.set_cons_succ, List.set_nil, List.length_cons, List.length_nil, List.length_map, List.cons_append, List.nil_append, List.append_nil, List.replicate, List.getElem?_cons_zero, List.getElem?_cons_succ, Option.some.injEq, V.int.injEq, V.bl.injEq, V.ref.injEq, V.str.injEq, List.cons.injEq, exists_eq_left', exists_eq_left, exists_and_left, and_assoc, upd_same, upd_upd, HO.lst.injEq, HO.tup.injEq, atI_0, atI_1, atI_2, atI_3, set_1, set_2, set_3, CDiv, CPow, CMul, List.length_set, Int.reduceToNat, Int.reduceLE, Int.reduceLT, Int.reducePow, Int.reduceNeg, Nat.reduceAdd, Nat.reduceLT, Nat.reduceLeDiff, Nat.reducePow, Nat.zero_add, or_true, true_or, gt_iff_lt, ge_iff_le, and_true, true_and, decide_eq_true_eq, if_true, Bool.false_eq_true, if_false]
    have ej : Txt.join ("" : Str) = fun ys => Str.join Str.empty ys := funext fun ys => TL.join_eq _ ys
    refine ⟨⟨_, rfl⟩, [pt m, pt n], .inl (SqL.of hr1), ?_, ⟨_, rfl⟩, ?_⟩
    · have l1 : (pt m).length ≤ 8 := pl_len m
      have l2 : (pt n).length ≤ 8 := pl_len n
      have l3 : (Str.ofString "").length = 0 := by decide +kernel
      simp only [List.map_cons, List.map_nil, List.sum_cons, List.sum_nil, l3, Nat.mul_zero]
      omega
    rw [show Txt.join (Str.ofString "") [pt m, pt n] = tx (pl m ++ pl n) from by
      rw [show Str.ofString "" = ("" : Str) from rfl, ej]
      show pt m ++ Str.empty ++ pt n = _
      rw [show Str.empty = tx [] from rfl, pt, pt, tx_app, tx_app, List.append_nil]]
    rw [show Str.ofString "abcdef" = tx six from six_tx]
    refine lcStr (x := tx six) (fun i D H' => H' D = some (.lst ((((six.take i).filter fun c => (m ^^^ n).testBit (c - 97)).map fun c => tx [c]).map V.str)) ∧ Same H H') (fun D hD => ⟨upd_same, same_new hD⟩) ?_ ?_
    · rintro i ch D H' hD hc ⟨eD, s1⟩
      have hc : six[i]? = some ch := hc
      refine ⟨rfl, ?_⟩
      simp only [tSeq, tAsg, tRet, tRetN, tDrop, tIfS, tNext, tNever, tOp, tUn, tVar, tC, rI0, rI, rU, tTest, tIf, tB, tAnd, tOr, tNot, tAndV, tOrV, tNotV, gName, gSub, gTupH, gCons, gNil, tYes, tCons, tNil, tLst, tTup, tCB, tCall, tMeth, tMake, tFld, sFld, tFor_c, tLc_c, iRng1, iList, iTup, iStr, iSeqB, iEnumB, tM1, tSl, tPart, tNoPart, rSlS, rIxS, tBM, rAppend, tIf, rEq, rNe, scal, hIx, hIxT, hIxB, hSet, hInt, hIntB, hLen, hLenT, hLenB, L2.start, wipe, List.map_cons, List.map_nil, List.set_cons_zero, List.set_cons_succ, List.set_nil, List.length_cons, List.length_nil, List.length_map, List.cons_append, List.nil_append, List.append_nil, List.replicate, List.getElem?_cons_zero, List.getElem?_cons_succ, Option.some.injEq, V.int.injEq, V.bl.injEq, V.ref.injEq, V.str.injEq, List.cons.injEq, exists_eq_left', exists_eq_left, exists_and_left, and_assoc, upd_same, upd_upd, HO.lst.injEq, HO.tup.injEq, atI_0, atI_1, atI_2, atI_3, set_1, set_2, set_3, CDiv, CPow, CMul, List.length_set, Int.reduceToNat, Int.reduceLE, Int.reduceLT, Int.reducePow, Int.reduceNeg, Nat.reduceAdd, Nat.reduceLT, Nat.reduceLeDiff, Nat.reducePow, Nat.zero_add, or_true, true_or, gt_iff_lt, ge_iff_le, and_true, true_and, decide_eq_true_eq, if_true, Bool.false_eq_true, if_false]
      have ec := cnt_xor hm hn (List.mem_of_getElem? hc)
      have ec2 : Txt.count (tx (pl m ++ pl n)) (tx [ch]) = (((pl m ++ pl n).count ch : Nat) : Int) := cnt_one _ _
      rw [ec2, take_s hc, List.filter_append]
      refine ⟨⟨_, rfl⟩, ?_⟩
      by_cases h : (pl m ++ pl n).count ch % 2 = 1
      · rw [decide_eq_true h] at ec
        rw [if_pos (by exact_mod_cast h), show [ch].filter (fun c => (m ^^^ n).testBit (c - 97)) = [ch] from by rw [List.filter_cons, ← ec]; rfl]
        refine ⟨_, eD, ?_, ?_, same_out s1 hD⟩
        · rw [List.length_map, List.length_map]
          refine small1000 (Nat.le_trans (List.length_filter_le _ _) ?_)
          rw [List.length_take]
          simp only [six, List.length_cons, List.length_nil]
          omega
        · rw [List.map_append, List.map_append]
          rfl
      · rw [decide_eq_false h] at ec
        rw [if_neg (fun z => h (by exact_mod_cast z)), show [ch].filter (fun c => (m ^^^ n).testBit (c - 97)) = [] from by rw [List.filter_cons, ← ec]; rfl, List.append_nil]
        exact ⟨eD, s1⟩
    · rintro D H' hD ⟨eD, s1⟩
      rw [show (lt (tx six)).length = six.length from rfl, List.take_of_length_le (Nat.le_refl _), ← pl6 (xor64 hm hn)] at eD
      refine ⟨D, rfl, _, .inl (SqL.of eD), ?_, ?_⟩
      · rw [sum_one, show (Str.ofString "").length = 0 from by decide +kernel, Nat.mul_zero]
        have := pl_len (m ^^^ n)
        omega
      · rw [show Str.ofString "" = ("" : Str) from rfl, ej]
        simp only [join_tx]
        exact q H' s1
def spShaped : Sp := fun vs H Q _ => ∃ (p c r : Addr) (xs : List V), vs = [.ref p, .ref r] ∧ PoolAt H p c ∧ H r = some (.lst xs) ∧ r ≠ p ∧ xs.length ≤ 900 ∧ ∀ t H', Off1 p H H' → PoolAt H' p c → RowAt H' t xs → t ≠ p → Q (.ref t) H'
theorem ok_law_shaped (T : Txt K mg a) : FnOk P w K mg base CX0 3 a.a_law_shaped a.d_law_shaped ["pool", "rows"] spShaped := by
  have G_law_take := ok_law_take (P := P) (w := w) (base := base) T
  refine T.F_law_shaped.ok sc_law_shaped (fun vs H Q E h => ?_) (fun cdv A outer s H vs Q E hr h => ?_)
  · obtain ⟨_, _, _, _, rfl, _⟩ := h
    rfl
  · obtain ⟨p, c, r, xs, rfl, hP, hr1, ne, hl, q⟩ := h
    refine ⟨_, (pss_one (ps_ret (pe_ix ixHT (pe_tup (pa_cons (pe_callTy callLstB (by rfl) T.z_list (by decide +kernel) (pa_cons (pv 1) pa_nil)) (pa_cons (pe_callTy callTupB (by rfl) T.z_tuple (by decide +kernel) (pa_cons (pv 1) pa_nil)) pa_nil))) (pe_call G_law_take (hr.mono (by first | decide | exact Nat.le_refl _ | omega)) (by rfl) T.g_law_take T.F_law_take.kp T.b_law_take .nil pass0 (pa_cons (pv 0) (pa_cons pe_int pa_nil))) (fun _ _ => rfl)))), ?_⟩
    simp only [tSeq, tAsg, tRet, tRetN, tDrop, tIfS, tNext, tNever, tOp, tUn, tVar, tC, rI0, rI, rU, tTest, tIf, tB, tAnd, tOr, tNot, tAndV, tOrV, tNotV, gName, gSub, gTupH, gCons, gNil, tYes, tCons, tNil, tLst, tTup, tCB, tCall, tMeth, tMake, tFld, sFld, tFor_c, tLc_c, iRng1, iList, iTup, iStr, iSeqB, iEnumB, tM1, tSl, tPart, tNoPart, rSlS, rIxS, tBM, rAppend, tIf, rEq, rNe, scal, hIx, hIxT, hIxB, hSet, hInt, hIntB, hLen, hLenT, hLenB, L2.start, wipe, List.map_cons, List.map_nil, List.set_cons_zero, List.set_cons_succ, List.set_nil, List.length_cons, List.length_nil, List.length_map, List.cons_append, List.nil_append, List.append_nil, List.replicate, List.getElem?_cons_zero, List.getElem?_cons_succ, Option.some.injEq, V.int.injEq, V.bl.injEq, V.ref.injEq, V.str.injEq, List.cons.injEq, exists_eq_left', exists_eq_left, exists_and_left, and_assoc, upd_same, upd_upd, HO.lst.injEq, HO.tup.injEq, atI_0, atI_1, atI_2, atI_3, set_1, set_2, set_3, CDiv, CPow, CMul, List.length_set, Int.reduceToNat, Int.reduceLE, Int.reduceLT, Int.reducePow, Int.reduceNeg, Nat.reduceAdd, Nat.reduceLT, Nat.reduceLeDiff, Nat.reducePow, Nat.zero_add, or_true, true_or, gt_iff_lt, ge_iff_le, and_true, true_and, decide_eq_true_eq, if_true, Bool.false_eq_true, if_false]
    refine ⟨r, xs, rfl, .inl hr1, fun D1 h1 => ?_⟩
    have s1 := same_new (o := .lst xs) h1
    refine ⟨r, xs, rfl, .inl (s1 _ _ hr1), fun D2 H2 s2 _ e2 => ?_⟩
    refine ⟨by decide, fun D3 h3 => ?_⟩
    have s3 := same_new (o := .tup [V.ref D1, V.ref D2]) h3
    have s13 := Same.tr (Same.tr s1 s2) s3
    have p3 := hP.same s13
    refine take_pool p3 (by decide) (by decide) fun d H4 d0 d1 k4 k4' p4 => ?_
    have n1 : D1 ≠ p := hP.ne_p h1
    have n2 : D2 ≠ p := fun z => by
      obtain ⟨_, _, _, _, e, _⟩ := (hP.same (Same.tr s1 s2)).ex
      rw [z, e] at e2
      cases e2
    have n3 : D3 ≠ p := (hP.same (Same.tr s1 s2)).ne_p h3
    have e3 : H4 D3 = some (.tup [V.ref D1, V.ref D2]) := by rw [k4' D3 n3]; exact upd_same
    have k : Off1 p H H4 := (Off1.of s13).tr k4
    have c : d = 0 ∨ d = 1 := by omega
    refine ⟨_, _, rfl, e3, ?_⟩
    rcases c with rfl | rfl
    · refine ⟨_, atI_0, q D1 H4 k p4 (.inl ?_) n1⟩
      rw [k4' D1 n1]
      exact s3 _ _ (s2 _ _ upd_same)
    · refine ⟨_, atI_1, q D2 H4 k p4 (.inr ?_) n2⟩
      rw [k4' D2 n2]
      exact s3 _ _ e2
end
end AK
set_option Elab.async false
set_option linter.all false
set_option maxRecDepth 100000
set_option maxHeartbeats 4000000
namespace AK
open PySem PySem.Spec PyProof.Rows L2
section
variable {P : Program} {w : World} {K : PySem.W.Frag} {mg : Str → Option Value} {base : Heap} {a : Ads}
def spLDer : Sp := fun vs H Q _ => ∃ (r : Addr) (ms : List Nat), vs = [.ref r] ∧ H r = some (.lst (ps ms)) ∧ (∀ m ∈ ms, m < 64) ∧ ms.length ≤ 900 ∧ ∀ (ys : List Str) D H', ys.Perm ((der ms).map pt) → sortedS ys = true → Same H H' → H D = none → H' D = some (.lst (ys.map V.str)) → Q (.ref D) H'
theorem ok_law_derived (T : Txt K mg a) : FnOk P w K mg base CX0 2 a.a_law_derived a.d_law_derived ["messages"] spLDer := by
  have G_law_sum := ok_law_sum (P := P) (w := w) (base := base) T
  refine T.F_law_derived.ok sc_law_derived (fun vs H Q E h => ?_) (fun cdv A outer s H vs Q E hr h => ?_)
  · obtain ⟨_, _, rfl, _⟩ := h
    rfl
  · obtain ⟨r, ms, rfl, hr1, hm, hl, q⟩ := h
    refine ⟨_, (pss_cons (ps_set (i := 1) sc_law_derived.nd rfl (.inl rfl) (pe_lst (pa_cons pe_str pa_nil)))
      (pss_cons (ps_for PassesOwn.never rfl (pi_list (pv 0)) (pg_name (i := 2) sc_law_derived.nd rfl (.inr rfl))
      (pss_one (ps_if (pt_cmpR op_notIn_seq (pv 2) (pv 1) (by rfl))
      (pss_one (ps_set (i := 1) sc_law_derived.nd rfl (.inl rfl) (pe_op op_cat (pv 1) (pe_lc (own := [("one", 3)]) (g := gName 3) (tt := tYes) rfl sc_law_derived.nd (pi_list (pv 1)) (blkOk_by (own := [("one", 3)]) (N := sc_law_derived_N) (sc := defScope s_law_derived) (by decide +kernel)) (fun _ _ _ _ _ => (pg_name (i := 3) sc_law_derived.nd rfl (.inl rfl))) (fun _ _ _ _ _ => pts_nil) (fun _ _ _ _ _ => (pe_call G_law_sum (hr.mono (by first | decide | exact Nat.le_refl _ | omega)) (by rfl) T.g_law_sum T.F_law_sum.kp T.b_law_sum .nil pass0 (pa_cons (pe_lst (pa_cons (pv 3) (pa_cons (pv 2) pa_nil))) pa_nil)))))))
      pss_nil)))
      (pss_one (ps_ret (pe_callB cr_sortedSA (by rfl) T.z_sorted (by decide +kernel) (pa_cons (pv 1) pa_nil)))))), ?_⟩
    simp only [tSeq, tAsg, tRet, tRetN, tDrop, tIfS, tNext, tNever, tOp, tUn, tVar, tC, rI0, rI, rU, tTest, tIf, tB, tAnd, tOr, tNot, tAndV, tOrV, tNotV, gName, gSub, gTupH, gCons, gNil, tYes, tCons, tNil, tLst, tTup, tCB, tCall, tMeth, tMake, tFld, sFld, tFor_c, tLc_c, iRng1, iList, iTup, iStr, iSeqB, iEnumB, tM1, tSl, tPart, tNoPart, rSlS, rIxS, tBM, rAppend, tIf, rEq, rNe, scal, hIx, hIxT, hIxB, hSet, hInt, hIntB, hLen, hLenT, hLenB, L2.start, wipe, List.map_cons, List.map_nil, List.set_cons_zero, List.set_cons_succ, List.set_nil, List.length_cons, List.length_nil, List.length_map, List.cons_append, List.nil_append, List.append_nil, List.replicate, List.getElem?_cons_zero, List.getElem?_cons_succ, Option.some.injEq, V.int.injEq, V.bl.injEq, V.ref.injEq, V.str.injEq, List.cons.injEq, exists_eq_left', exists_eq_left, exists_and_left, and_assoc, upd_same, upd_upd, HO.lst.injEq, HO.tup.injEq, atI_0, atI_1, atI_2, atI_3, set_1, set_2, set_3, CDiv, CPow, CMul, List.length_set, Int.reduceToNat, Int.reduceLE, Int.reduceLT, Int.reducePow, Int.reduceNeg, Nat.reduceAdd, Nat.reduceLT, Nat.reduceLeDiff, Nat.reducePow, Nat.zero_add, or_true, true_or, gt_iff_lt, ge_iff_le, and_true, true_and, decide_eq_true_eq, if_true, Bool.false_eq_true, if_false]
    refine ⟨by decide, fun F0 hF0 => ?_⟩
    have e0 : upd H F0 (.lst [V.str (Str.ofString "")]) F0 = some (.lst (ps ((ms.take 0).foldl dstep [0]))) := by
      rw [upd_same, show Str.ofString "" = pt 0 from pt0]
      rfl
    refine ⟨⟨_, SqL.of (same_new hF0 _ _ hr1)⟩, ?_⟩
    have lt6 : ∀ i, ∀ x ∈ (ms.take i).foldl dstep [0], x < 64 := fun i => der_lt fun m h => hm m (List.mem_of_mem_take h)
    have le6 : ∀ i, ((ms.take i).foldl dstep [0]).length ≤ 64 := fun i => der_len fun m h => hm m (List.mem_of_mem_take h)
    refine forLst (xs := ps ms) (fun i σ H' => ∃ (f : Addr) (v w : Option V), σ = [some (.ref r), some (.ref f), v, w] ∧ Same H H' ∧ H' f = some (.lst (ps ((ms.take i).foldl dstep [0])))) ⟨F0, none, none, rfl, same_new hF0, e0⟩ ?_ ?_ ?_
    · rintro i σ H' _ ⟨f, v, w, rfl, s1, _⟩
      exact SqL.of (s1 _ _ hr1)
    · rintro i x σ H' hx ⟨f, v, w, rfl, s1, ef⟩
      obtain ⟨m, hm1, rfl⟩ := ps_at hx
      have hm64 := hm m (List.mem_of_getElem? hm1)
      simp only [tSeq, tAsg, tRet, tRetN, tDrop, tIfS, tNext, tNever, tOp, tUn, tVar, tC, rI0, rI, rU, tTest, tIf, tB, tAnd, tOr, tNot, tAndV, tOrV, tNotV, gName, gSub, gTupH, gCons, gNil, tYes, tCons, tNil, tLst, tTup, tCB, tCall, tMeth, tMake, tFld, sFld, tFor_c, tLc_c, iRng1, iList, iTup, iStr, iSeqB, iEnumB, tM1, tSl, tPart, tNoPart, rSlS, rIxS, tBM, rAppend, tIf, rEq, rNe, scal, hIx, hIxT, hIxB, hSet, hInt, hIntB, hLen, hLenT, hLenB, L2.start, wipe, List.map_cons, List.map_nil, List.set_cons_zero, List.set_cons_succ, List.set_nil, List.length_cons, List.length_nil, List.length_map, List.cons_append, List.nil_append, List.append_nil, List.replicate, List.getElem?_cons_zero, List.getElem?_cons_succ, Option.some.injEq, V.int.injEq, V.bl.injEq, V.ref.injEq, V.str.injEq, List.cons.injEq, exists_eq_left', exists_eq_left, exists_and_left, and_assoc, upd_same, upd_upd, HO.lst.injEq, HO.tup.injEq, atI_0, atI_1, atI_2, atI_3, set_1, set_2, set_3, CDiv, CPow, CMul, List.length_set, Int.reduceToNat, Int.reduceLE, Int.reduceLT, Int.reducePow, Int.reduceNeg, Nat.reduceAdd, Nat.reduceLT, Nat.reduceLeDiff, Nat.reducePow, Nat.zero_add, or_true, true_or, gt_iff_lt, ge_iff_le, and_true, true_and, decide_eq_true_eq, if_true, Bool.false_eq_true, if_false]
      refine ⟨f, _, rfl, .inl (SqL.of ef), rfl, flat_ps _, _, rfl, ?_⟩
      rw [if_pos rfl, in_ps (by omega) (fun k hk => Nat.lt_of_lt_of_le (lt6 i k hk) (by decide))]
      have et : (ms.take (i + 1)).foldl dstep [0] = dstep ((ms.take i).foldl dstep [0]) m := by
        rw [take_s hm1, List.foldl_append]
        rfl
      rw [et]
      generalize hF : (ms.take i).foldl dstep [0] = F at ef ⊢
      have ltF : ∀ x ∈ F, x < 64 := hF ▸ lt6 i
      have leF : F.length ≤ 64 := hF ▸ le6 i
      unfold dstep
      by_cases h : m ∈ F
      · rw [decide_eq_true h, if_neg (show ¬(!true) = true by decide), if_pos h]
        exact ⟨s1, ef⟩
      · rw [decide_eq_false h, if_pos (show (!false) = true from rfl), if_neg h]
        refine ⟨⟨_, SqL.of ef⟩, ?_⟩
        refine lcLst (xs := ps F) (fun j D H2 => H2 D = some (.lst (ps ((F.take j).map (· ^^^ m)))) ∧ Same H' H2) (fun D hD => ⟨upd_same, same_new hD⟩) (fun j D H2 _ _ z => SqL.of (z.2 _ _ ef)) ?_ ?_
        · rintro j x D H2 hD hx ⟨eD, s2⟩
          obtain ⟨k, hk, rfl⟩ := ps_at hx
          refine ⟨rfl, ?_⟩
          simp only [tSeq, tAsg, tRet, tRetN, tDrop, tIfS, tNext, tNever, tOp, tUn, tVar, tC, rI0, rI, rU, tTest, tIf, tB, tAnd, tOr, tNot, tAndV, tOrV, tNotV, gName, gSub, gTupH, gCons, gNil, tYes, tCons, tNil, tLst, tTup, tCB, tCall, tMeth, tMake, tFld, sFld, tFor_c, tLc_c, iRng1, iList, iTup, iStr, iSeqB, iEnumB, tM1, tSl, tPart, tNoPart, rSlS, rIxS, tBM, rAppend, tIf, rEq, rNe, scal, hIx, hIxT, hIxB, hSet, hInt, hIntB, hLen, hLenT, hLenB, L2.start, wipe, List.map_cons, List.map_nil, List.set_cons_zero, List.set_cons_succ, List.set_nil, List.length_cons, List.length_nil, List.length_map, List.cons_append, List.nil_append, List.append_nil, List.replicate, List.getElem?_cons_zero, List.getElem?_cons_succ, Option.some.injEq, V.int.injEq, V.bl.injEq, V.ref.injEq, V.str.injEq, List.cons.injEq, exists_eq_left', exists_eq_left, exists_and_left, and_assoc, upd_same, upd_upd, HO.lst.injEq, HO.tup.injEq, atI_0, atI_1, atI_2, atI_3, set_1, set_2, set_3, CDiv, CPow, CMul, List.length_set, Int.reduceToNat, Int.reduceLE, Int.reduceLT, Int.reducePow, Int.reduceNeg, Nat.reduceAdd, Nat.reduceLT, Nat.reduceLeDiff, Nat.reducePow, Nat.zero_add, or_true, true_or, gt_iff_lt, ge_iff_le, and_true, true_and, decide_eq_true_eq, if_true, Bool.false_eq_true, if_false]
          refine ⟨by decide, fun t ht => ?_⟩
          refine ⟨t, k, m, rfl, upd_same, ltF k (List.mem_of_getElem? hk), hm64, fun H3 s3 => ?_⟩
          have s23 : Same H2 H3 := Same.tr (same_new ht) s3
          refine ⟨_, s23 _ _ eD, ?_, ?_, same_out (Same.tr s2 s23) hD⟩
          · rw [List.length_map, List.length_map, List.length_take]
            exact small1000 (by omega)
          · rw [take_s hk, List.map_append]
            show _ = ps (_ ++ [k ^^^ m])
            rw [ps, ps, List.map_append]
            rfl
        · rintro D H2 hD ⟨eD, s2⟩
          rw [show (ps F).length = F.length from List.length_map _, List.take_of_length_le (Nat.le_refl _)] at eD
          refine ⟨f, D, _, _, rfl, rfl, s2 _ _ ef, eD, ?_, fun G hG => ⟨G, rfl, ?_, ?_⟩⟩
          · rw [List.length_map, List.length_map, List.length_map]
            exact sizeLe (by omega)
          · exact Same.tr (Same.tr s1 s2) (same_new hG)
          · rw [upd_same, ps, ps, ps, List.map_append]
    · rintro σ H' ⟨f, v, w, rfl, s1, ef⟩
      rw [show (ps ms).length = ms.length from List.length_map _, List.take_of_length_le (Nat.le_refl _)] at ef
      simp only [tSeq, tAsg, tRet, tRetN, tDrop, tIfS, tNext, tNever, tOp, tUn, tVar, tC, rI0, rI, rU, tTest, tIf, tB, tAnd, tOr, tNot, tAndV, tOrV, tNotV, gName, gSub, gTupH, gCons, gNil, tYes, tCons, tNil, tLst, tTup, tCB, tCall, tMeth, tMake, tFld, sFld, tFor_c, tLc_c, iRng1, iList, iTup, iStr, iSeqB, iEnumB, tM1, tSl, tPart, tNoPart, rSlS, rIxS, tBM, rAppend, tIf, rEq, rNe, scal, hIx, hIxT, hIxB, hSet, hInt, hIntB, hLen, hLenT, hLenB, L2.start, wipe, List.map_cons, List.map_nil, List.set_cons_zero, List.set_cons_succ, List.set_nil, List.length_cons, List.length_nil, List.length_map, List.cons_append, List.nil_append, List.append_nil, List.replicate, List.getElem?_cons_zero, List.getElem?_cons_succ, Option.some.injEq, V.int.injEq, V.bl.injEq, V.ref.injEq, V.str.injEq, List.cons.injEq, exists_eq_left', exists_eq_left, exists_and_left, and_assoc, upd_same, upd_upd, HO.lst.injEq, HO.tup.injEq, atI_0, atI_1, atI_2, atI_3, set_1, set_2, set_3, CDiv, CPow, CMul, List.length_set, Int.reduceToNat, Int.reduceLE, Int.reduceLT, Int.reducePow, Int.reduceNeg, Nat.reduceAdd, Nat.reduceLT, Nat.reduceLeDiff, Nat.reducePow, Nat.zero_add, or_true, true_or, gt_iff_lt, ge_iff_le, and_true, true_and, decide_eq_true_eq, if_true, Bool.false_eq_true, if_false]
      refine ⟨f, (der ms).map pt, rfl, SqL.of (by rw [ef, ps, List.map_map]; rfl), fun ys D hp hs hD => ?_⟩
      exact q ys D _ hp hs (Same.tr s1 (same_new hD)) (s1.free hD) upd_same
def spSecond : Sp := fun vs H Q _ => ∃ (p c r : Addr) (n : Nat) (ms : List Nat), vs = [.ref p, .int (n : Int), .ref r] ∧ PoolAt H p c ∧ H r = some (.lst (ps ms)) ∧ r ≠ p ∧ (∀ m ∈ ms, m < 64) ∧ ms.length ≤ 7 ∧ ∀ D ks H', Off1 p H H' → PoolAt H' p c → H' D = some (.lst (ps ks)) → D ≠ p → (∀ m ∈ ks, m < 64) → ks.length ≤ 7 → Q (.ref D) H'
theorem ok_law_second (T : Txt K mg a) : FnOk P w K mg base CX0 4 a.a_law_second a.d_law_second ["pool", "variables", "first"] spSecond := by
  have G_law_take := ok_law_take (P := P) (w := w) (base := base) T
  have G_law_parity := ok_law_parity (P := P) (w := w) (base := base) T
  have G_law_derived := ok_law_derived (P := P) (w := w) (base := base) T
  have G_law_pick := ok_law_pick (P := P) (w := w) (base := base) T
  refine T.F_law_second.ok sc_law_second (fun vs H Q E h => ?_) (fun cdv A outer s H vs Q E hr h => ?_)
  · obtain ⟨_, _, _, _, _, rfl, _⟩ := h
    rfl
  · obtain ⟨p, c, r, n, ms, rfl, hP, hr1, ne, hm, hl, q⟩ := h
    refine ⟨_, (pss_cons (ps_set (i := 3) sc_law_second.nd rfl (.inl rfl) (pe_call G_law_take (hr.mono (by first | decide | exact Nat.le_refl _ | omega)) (by rfl) T.g_law_take T.F_law_take.kp T.b_law_take .nil pass0 (pa_cons (pv 0) (pa_cons pe_int pa_nil))))
      (pss_cons (ps_if (pt_cmpR op_eq (pv 3) pe_int (nomark _))
      (pss_one (ps_ret (pe_lc (own := [("k", 7)]) (g := gName 7) (tt := tYes) rfl sc_law_second.nd (pi_range1 (by rfl) T.z_range (pa_cons (pe_call G_law_take (hr.mono (by first | decide | exact Nat.le_refl _ | omega)) (by rfl) T.g_law_take T.F_law_take.kp T.b_law_take .nil pass0 (pa_cons (pv 0) (pa_cons pe_int pa_nil))) pa_nil)) (blkOk_by (own := [("k", 7)]) (N := sc_law_second_N) (sc := defScope s_law_second) (by decide +kernel)) (fun _ _ _ _ _ => (pg_name (i := 7) sc_law_second.nd rfl (.inl rfl))) (fun _ _ _ _ _ => pts_nil) (fun _ _ _ _ _ => (pe_call G_law_parity (hr.mono (by first | decide | exact Nat.le_refl _ | omega)) (by rfl) T.g_law_parity T.F_law_parity.kp T.b_law_parity .nil pass0 (pa_cons (pv 0) (pa_cons (pv 1) pa_nil)))))))
      pss_nil)
      (pss_cons (ps_if (pt_cmpR op_eq (pv 3) pe_int (nomark _))
      (pss_cons (ps_set (i := 4) sc_law_second.nd rfl (.inl rfl) (pe_lst pa_nil))
      (pss_cons (ps_for PassesOwn.never rfl (pi_list (pv 2)) (pg_name (i := 5) sc_law_second.nd rfl (.inl rfl))
      (pss_one (ps_expr (pe_bm PySem.F.plainAttrs_list PySem.F.slot_list_insert PySem.F.type_list_insert mt_insert (pv 4) (pa_cons (pe_call G_law_take (hr.mono (by first | decide | exact Nat.le_refl _ | omega)) (by rfl) T.g_law_take T.F_law_take.kp T.b_law_take .nil pass0 (pa_cons (pv 0) (pa_cons (pe_op op_add (pe_callB callLen (by rfl) T.z_len PySem.boot_len (pa_cons (pv 4) pa_nil)) pe_int) pa_nil))) (pa_cons (pv 5) pa_nil))))))
      (pss_one (ps_ret (pv 4)))))
      pss_nil)
      (pss_cons (ps_set (i := 6) sc_law_second.nd rfl (.inr rfl) (pe_call G_law_derived (hr.mono (by first | decide | exact Nat.le_refl _ | omega)) (by rfl) T.g_law_derived T.F_law_derived.kp T.b_law_derived .nil pass0 (pa_cons (pv 2) pa_nil)))
      (pss_one (ps_ret (pe_lc (own := [("k", 7)]) (g := gName 7) (tt := tYes) rfl sc_law_second.nd (pi_range1 (by rfl) T.z_range (pa_cons (pe_call G_law_take (hr.mono (by first | decide | exact Nat.le_refl _ | omega)) (by rfl) T.g_law_take T.F_law_take.kp T.b_law_take .nil pass0 (pa_cons (pv 0) (pa_cons pe_int pa_nil))) pa_nil)) (blkOk_by (own := [("k", 7)]) (N := sc_law_second_N) (sc := defScope s_law_second) (by decide +kernel)) (fun _ _ _ _ _ => (pg_name (i := 7) sc_law_second.nd rfl (.inl rfl))) (fun _ _ _ _ _ => pts_nil) (fun _ _ _ _ _ => (pe_call G_law_pick (hr.mono (by first | decide | exact Nat.le_refl _ | omega)) (by rfl) T.g_law_pick T.F_law_pick.kp T.b_law_pick .nil pass0 (pa_cons (pv 0) (pa_cons (pv 6) pa_nil))))))))))), ?_⟩
    simp only [tSeq, tAsg, tRet, tRetN, tDrop, tIfS, tNext, tNever, tOp, tUn, tVar, tC, rI0, rI, rU, tTest, tIf, tB, tAnd, tOr, tNot, tAndV, tOrV, tNotV, gName, gSub, gTupH, gCons, gNil, tYes, tCons, tNil, tLst, tTup, tCB, tCall, tMeth, tMake, tFld, sFld, tFor_c, tLc_c, iRng1, iList, iTup, iStr, iSeqB, iEnumB, tM1, tSl, tPart, tNoPart, rSlS, rIxS, tBM, rAppend, tIf, rEq, rNe, scal, hIx, hIxT, hIxB, hSet, hInt, hIntB, hLen, hLenT, hLenB, L2.start, wipe, List.map_cons, List.map_nil, List.set_cons_zero, List.set_cons_succ, List.set_nil, List.length_cons, List.length_nil, List.length_map, List.cons_append, List.nil_append, List.append_nil, List.replicate, List.getElem?_cons_zero, List.getElem?_cons_succ, Option.some.injEq, V.int.injEq, V.bl.injEq, V.ref.injEq, V.str.injEq, List.cons.injEq, exists_eq_left', exists_eq_left, exists_and_left, and_assoc, upd_same, upd_upd, HO.lst.injEq, HO.tup.injEq, atI_0, atI_1, atI_2, atI_3, set_1, set_2, set_3, CDiv, CPow, CMul, List.length_set, Int.reduceToNat, Int.reduceLE, Int.reduceLT, Int.reducePow, Int.reduceNeg, Nat.reduceAdd, Nat.reduceLT, Nat.reduceLeDiff, Nat.reducePow, Nat.zero_add, or_true, true_or, gt_iff_lt, ge_iff_le, and_true, true_and, decide_eq_true_eq, if_true, Bool.false_eq_true, if_false]
    refine take_pool hP (by decide) (by decide) fun d H1 d0 d1 k1 k1' p1 => ?_
    refine ⟨rfl, ite2 (fun c0 => ?_) (fun c0 => ⟨rfl, ite2 (fun c1 => ?_) (fun c1 => ?_)⟩)⟩
    · refine take_pool p1 (by decide) (by decide) fun j H2 j0 j1 k2 k2' p2 => ⟨j, rfl, by omega, by omega, ?_⟩
      have k02 := k1.tr k2
      refine lcRng (fun i D H' => ∃ ks : List Nat, H' D = some (.lst (ps ks)) ∧ (∀ m ∈ ks, m < 64) ∧ ks.length = i ∧ Off1 p H H' ∧ PoolAt H' p c) (fun D hD => ⟨[], upd_same, fun m h => (List.not_mem_nil h).elim, rfl, k02.new hD, p2.new hD⟩) ?_ ?_
      · rintro i D H' hD hi ⟨ks, eD, hk, lk, k3, p3⟩
        have hDp := p2.ne_p hD
        have hD0 := k02.fresh p2 hD
        refine ⟨rfl, ?_⟩
        simp only [tSeq, tAsg, tRet, tRetN, tDrop, tIfS, tNext, tNever, tOp, tUn, tVar, tC, rI0, rI, rU, tTest, tIf, tB, tAnd, tOr, tNot, tAndV, tOrV, tNotV, gName, gSub, gTupH, gCons, gNil, tYes, tCons, tNil, tLst, tTup, tCB, tCall, tMeth, tMake, tFld, sFld, tFor_c, tLc_c, iRng1, iList, iTup, iStr, iSeqB, iEnumB, tM1, tSl, tPart, tNoPart, rSlS, rIxS, tBM, rAppend, tIf, rEq, rNe, scal, hIx, hIxT, hIxB, hSet, hInt, hIntB, hLen, hLenT, hLenB, L2.start, wipe, List.map_cons, List.map_nil, List.set_cons_zero, List.set_cons_succ, List.set_nil, List.length_cons, List.length_nil, List.length_map, List.cons_append, List.nil_append, List.append_nil, List.replicate, List.getElem?_cons_zero, List.getElem?_cons_succ, Option.some.injEq, V.int.injEq, V.bl.injEq, V.ref.injEq, V.str.injEq, List.cons.injEq, exists_eq_left', exists_eq_left, exists_and_left, and_assoc, upd_same, upd_upd, HO.lst.injEq, HO.tup.injEq, atI_0, atI_1, atI_2, atI_3, set_1, set_2, set_3, CDiv, CPow, CMul, List.length_set, Int.reduceToNat, Int.reduceLE, Int.reduceLT, Int.reducePow, Int.reduceNeg, Nat.reduceAdd, Nat.reduceLT, Nat.reduceLeDiff, Nat.reducePow, Nat.zero_add, or_true, true_or, gt_iff_lt, ge_iff_le, and_true, true_and, decide_eq_true_eq, if_true, Bool.false_eq_true, if_false]
        refine ⟨p, c, n, rfl, p3, fun m H3 hm3 _ k4 p4 => ?_⟩
        refine ⟨_, k4 _ _ hDp eD, ?_, ks ++ [m], ?_, ?_, ?_, (k3.tr k4).wr hD0, p4.wr hDp (p2.ne_c hD)⟩
        · rw [List.length_map]
          exact small1000 (by omega)
        · rw [ps, ps, List.map_append]
          rfl
        · intro x hx
          rcases List.mem_append.mp hx with h | h
          · exact hk x h
          · rw [List.mem_singleton.mp h]; exact hm3
        · rw [List.length_append, lk]; rfl
      · rintro D H' hD ⟨ks, eD, hk, lk, k3, p3⟩
        exact q D ks H' k3 p3 eD (p2.ne_p hD) hk (by omega)
    · refine ⟨Nat.zero_le _, fun F hF => ?_⟩
      have kF := k1.new (o := .lst []) hF
      have pF := p1.new (o := .lst []) hF
      have hFp := p1.ne_p hF
      have hFc := p1.ne_c hF
      have hF0 := k1.fresh p1 hF
      have hFr : F ≠ r := fun z => by rw [z, hr1] at hF0; cases hF0
      refine ⟨⟨_, SqL.of (kF _ _ ne hr1)⟩, ?_⟩
      refine forLst (xs := ps ms) (fun i σ H' => ∃ (v w u : Option V) (ks : List Nat), σ = [some (.ref p), some (.int (n : Int)), some (.ref r), some (.int d), some (.ref F), v, w, u] ∧ H' F = some (.lst (ps ks)) ∧ (∀ m ∈ ks, m < 64) ∧ ks.length = i ∧ Off1 p H H' ∧ PoolAt H' p c) ⟨none, none, none, [], rfl, upd_same, fun m h => (List.not_mem_nil h).elim, rfl, kF, pF⟩ ?_ ?_ ?_
      · rintro i σ H' _ ⟨v, w, u, ks, rfl, eF, hk, lk, k3, p3⟩
        exact SqL.of (k3 _ _ ne hr1)
      · rintro i x σ H' hx ⟨v, w, u, ks, rfl, eF, hk, lk, k3, p3⟩
        obtain ⟨m, hm1, rfl⟩ := ps_at hx
        have hi : i < ms.length := (List.getElem?_eq_some_iff.mp hm1).1
        simp only [tSeq, tAsg, tRet, tRetN, tDrop, tIfS, tNext, tNever, tOp, tUn, tVar, tC, rI0, rI, rU, tTest, tIf, tB, tAnd, tOr, tNot, tAndV, tOrV, tNotV, gName, gSub, gTupH, gCons, gNil, tYes, tCons, tNil, tLst, tTup, tCB, tCall, tMeth, tMake, tFld, sFld, tFor_c, tLc_c, iRng1, iList, iTup, iStr, iSeqB, iEnumB, tM1, tSl, tPart, tNoPart, rSlS, rIxS, tBM, rAppend, tIf, rEq, rNe, scal, hIx, hIxT, hIxB, hSet, hInt, hIntB, hLen, hLenT, hLenB, L2.start, wipe, List.map_cons, List.map_nil, List.set_cons_zero, List.set_cons_succ, List.set_nil, List.length_cons, List.length_nil, List.length_map, List.cons_append, List.nil_append, List.append_nil, List.replicate, List.getElem?_cons_zero, List.getElem?_cons_succ, Option.some.injEq, V.int.injEq, V.bl.injEq, V.ref.injEq, V.str.injEq, List.cons.injEq, exists_eq_left', exists_eq_left, exists_and_left, and_assoc, upd_same, upd_upd, HO.lst.injEq, HO.tup.injEq, atI_0, atI_1, atI_2, atI_3, set_1, set_2, set_3, CDiv, CPow, CMul, List.length_set, Int.reduceToNat, Int.reduceLE, Int.reduceLT, Int.reducePow, Int.reduceNeg, Nat.reduceAdd, Nat.reduceLT, Nat.reduceLeDiff, Nat.reducePow, Nat.zero_add, or_true, true_or, gt_iff_lt, ge_iff_le, and_true, true_and, decide_eq_true_eq, if_true, Bool.false_eq_true, if_false]
        refine ⟨.inl ⟨rfl, _, SqL.of eF⟩, _, eF, take_pool p3 (by omega) (by rw [List.length_map]; omega) fun j H3 j0 j1 k4 k4' p4 => ?_⟩
        rw [List.length_map] at j1
        refine ⟨_, _, rfl, k4 _ _ hFp eF, ?_, j0, by omega, ks.take j.toNat ++ [m] ++ ks.drop j.toNat, ?_, ?_, ?_, (k3.tr k4).wr hF0, p4.wr hFp hFc⟩
        · rw [List.length_map]
          exact small1000 (by omega)
        · rw [ps, ps, List.map_append, List.map_append, List.map_take, List.map_drop]
          rfl
        · intro x hx
          rcases List.mem_append.mp hx with hx | hx
          · rcases List.mem_append.mp hx with hx | hx
            · exact hk x (List.mem_of_mem_take hx)
            · rw [List.mem_singleton.mp hx]
              exact hm m (List.mem_of_getElem? hm1)
          · exact hk x (List.mem_of_mem_drop hx)
        · rw [List.length_append, List.length_append, List.length_take, List.length_drop, List.length_singleton]
          omega
      · rintro σ H' ⟨v, w, u, ks, rfl, eF, hk, lk, k3, p3⟩
        rw [show (ps ms).length = ms.length from List.length_map _] at lk
        simp only [tSeq, tAsg, tRet, tRetN, tDrop, tIfS, tNext, tNever, tOp, tUn, tVar, tC, rI0, rI, rU, tTest, tIf, tB, tAnd, tOr, tNot, tAndV, tOrV, tNotV, gName, gSub, gTupH, gCons, gNil, tYes, tCons, tNil, tLst, tTup, tCB, tCall, tMeth, tMake, tFld, sFld, tFor_c, tLc_c, iRng1, iList, iTup, iStr, iSeqB, iEnumB, tM1, tSl, tPart, tNoPart, rSlS, rIxS, tBM, rAppend, tIf, rEq, rNe, scal, hIx, hIxT, hIxB, hSet, hInt, hIntB, hLen, hLenT, hLenB, L2.start, wipe, List.map_cons, List.map_nil, List.set_cons_zero, List.set_cons_succ, List.set_nil, List.length_cons, List.length_nil, List.length_map, List.cons_append, List.nil_append, List.append_nil, List.replicate, List.getElem?_cons_zero, List.getElem?_cons_succ, Option.some.injEq, V.int.injEq, V.bl.injEq, V.ref.injEq, V.str.injEq, List.cons.injEq, exists_eq_left', exists_eq_left, exists_and_left, and_assoc, upd_same, upd_upd, HO.lst.injEq, HO.tup.injEq, atI_0, atI_1, atI_2, atI_3, set_1, set_2, set_3, CDiv, CPow, CMul, List.length_set, Int.reduceToNat, Int.reduceLE, Int.reduceLT, Int.reducePow, Int.reduceNeg, Nat.reduceAdd, Nat.reduceLT, Nat.reduceLeDiff, Nat.reducePow, Nat.zero_add, or_true, true_or, gt_iff_lt, ge_iff_le, and_true, true_and, decide_eq_true_eq, if_true, Bool.false_eq_true, if_false]
        exact q F ks H' k3 p3 eF hFp hk (by omega)
    · refine ⟨r, ms, rfl, k1 _ _ ne hr1, hm, by omega, fun ys D H2 hp hs s2 hD2 eD2 => ?_⟩
      have p2 := p1.same s2
      have k02 := k1.tr (.of s2)
      have hnp : D ≠ p := p1.ne_p hD2
      refine take_pool p2 (by decide) (by decide) fun j H3 j0 j1 k3 k3' p3 => ⟨j, rfl, by omega, by omega, ?_⟩
      have k03 := k02.tr k3
      have eD3 := k3 _ _ hnp eD2
      refine lcRng (fun i E H' => ∃ ks : List Nat, H' E = some (.lst (ps ks)) ∧ (∀ m ∈ ks, m < 64) ∧ ks.length = i ∧ Off1 p H3 H' ∧ PoolAt H' p c) (fun E hE => ⟨[], upd_same, fun m h => (List.not_mem_nil h).elim, rfl, Off1.refl.new hE, p3.new hE⟩) ?_ ?_
      · rintro i E H' hE hi ⟨ks, eE, hk, lk, k4, p4⟩
        have hEp := p3.ne_p hE
        refine ⟨rfl, ?_⟩
        simp only [tSeq, tAsg, tRet, tRetN, tDrop, tIfS, tNext, tNever, tOp, tUn, tVar, tC, rI0, rI, rU, tTest, tIf, tB, tAnd, tOr, tNot, tAndV, tOrV, tNotV, gName, gSub, gTupH, gCons, gNil, tYes, tCons, tNil, tLst, tTup, tCB, tCall, tMeth, tMake, tFld, sFld, tFor_c, tLc_c, iRng1, iList, iTup, iStr, iSeqB, iEnumB, tM1, tSl, tPart, tNoPart, rSlS, rIxS, tBM, rAppend, tIf, rEq, rNe, scal, hIx, hIxT, hIxB, hSet, hInt, hIntB, hLen, hLenT, hLenB, L2.start, wipe, List.map_cons, List.map_nil, List.set_cons_zero, List.set_cons_succ, List.set_nil, List.length_cons, List.length_nil, List.length_map, List.cons_append, List.nil_append, List.append_nil, List.replicate, List.getElem?_cons_zero, List.getElem?_cons_succ, Option.some.injEq, V.int.injEq, V.bl.injEq, V.ref.injEq, V.str.injEq, List.cons.injEq, exists_eq_left', exists_eq_left, exists_and_left, and_assoc, upd_same, upd_upd, HO.lst.injEq, HO.tup.injEq, atI_0, atI_1, atI_2, atI_3, set_1, set_2, set_3, CDiv, CPow, CMul, List.length_set, Int.reduceToNat, Int.reduceLE, Int.reduceLT, Int.reducePow, Int.reduceNeg, Nat.reduceAdd, Nat.reduceLT, Nat.reduceLeDiff, Nat.reducePow, Nat.zero_add, or_true, true_or, gt_iff_lt, ge_iff_le, and_true, true_and, decide_eq_true_eq, if_true, Bool.false_eq_true, if_false]
        refine ⟨p, c, D, _, rfl, p4, k4 _ _ hnp eD3, hnp, ?_, ?_, fun x H5 hx k5 p5 => ?_⟩
        · intro z
          have l0 := hp.length_eq
          rw [List.map_eq_nil_iff.mp z, List.length_map] at l0
          have : 0 ∈ der ms := (der_mem ms 0).mpr (S_zero ms)
          have := List.length_pos_of_mem this
          simp only [List.length_nil] at l0
          omega
        · rw [List.length_map, hp.length_eq, List.length_map]
          have := der_len hm
          omega
        · obtain ⟨y, hy, rfl⟩ := List.mem_map.mp hx
          obtain ⟨m, hm2, rfl⟩ := List.mem_map.mp (hp.mem_iff.mp hy)
          have hm3 := der_lt hm m hm2
          refine ⟨_, k5 _ _ hEp eE, ?_, ks ++ [m], ?_, ?_, ?_, (k4.tr k5).wr hE, p5.wr hEp (p3.ne_c hE)⟩
          · rw [List.length_map]
            exact small1000 (by omega)
          · rw [ps, ps, List.map_append]
            rfl
          · intro x hx
            rcases List.mem_append.mp hx with h | h
            · exact hk x h
            · rw [List.mem_singleton.mp h]; exact hm3
          · rw [List.length_append, lk]; rfl
      · rintro E H' hE ⟨ks, eE, hk, lk, k4, p4⟩
        exact q E ks H' (k03.tr k4) p4 eE (p3.ne_p hE) hk (by omega)
end
end AK
set_option Elab.async false
set_option linter.all false
set_option maxRecDepth 100000
set_option maxHeartbeats 8000000
namespace AK
open PySem PySem.Spec PyProof.Rows L2
theorem Pool.at {G H : Hp} {p : Addr} (h : Pool G H p) : ∃ c, PoolAt H p c := by
  obtain ⟨c, cells, i, d, x, e1, e2, e3⟩ := h.ex
  exact ⟨c, ne_of_none e2 h.out, cells, i, d, x, e1, h.le _ _ e2, e3⟩
/-- the pool and the two rows -/
structure St7 (p c F G : Addr) (A B : List Nat) (H : Hp) : Prop where
  pool : PoolAt H p c
  eA : H F = some (.lst (ps A))
  eB : H G = some (.lst (ps B))
  nF : F ≠ p
  nG : G ≠ p
theorem St7.same {p c F G : Addr} {A B : List Nat} {H H' : Hp} (h : St7 p c F G A B H) (s : Same H H') : St7 p c F G A B H' := ⟨h.pool.same s, s _ _ h.eA, s _ _ h.eB, h.nF, h.nG⟩
theorem St7.off {p c F G : Addr} {A B : List Nat} {H H' : Hp} (h : St7 p c F G A B H) (s : Off1 p H H') (k : PoolAt H' p c) : St7 p c F G A B H' := ⟨k, s _ _ h.nF h.eA, s _ _ h.nG h.eB, h.nF, h.nG⟩
theorem alike_iff {A B : List Nat} (hA : ∀ m ∈ A, m < 64) (hB : ∀ m ∈ B, m < 64) {ya yb : List Str} (pa : ya.Perm ((der A).map pt)) (sa : sortedS ya = true) (pb : yb.Perm ((der B).map pt)) (sb : sortedS yb = true) : (∀ x, S A x ↔ S B x) ↔ ya = yb := by
  constructor
  · intro h
    have p0 : (der A).Perm (der B) := (List.perm_ext_iff_of_nodup (rep A).n (rep B).n).mpr fun x => by rw [der_mem, der_mem]; exact h x
    exact sortedS_eq sa sb (pa.trans ((p0.map pt).trans pb.symm))
  · rintro rfl x
    have p0 := pa.symm.trans pb
    have one : ∀ {A B : List Nat}, (∀ m ∈ A, m < 64) → (∀ m ∈ B, m < 64) → ((der A).map pt).Perm ((der B).map pt) → S A x → S B x := fun {A B} hA hB p0 h => by
      have hx := (der_mem A x).mpr h
      obtain ⟨y, hy, e⟩ := List.mem_map.mp (p0.mem_iff.mp (List.mem_map.mpr ⟨x, hx, rfl⟩))
      have e2 := pt_inj (Nat.lt_of_lt_of_le (der_lt hB y hy) (by decide)) (Nat.lt_of_lt_of_le (der_lt hA x hx) (by decide)) e
      subst e2
      exact (der_mem B _).mp hy
    exact ⟨one hA hB p0, one hB hA p0.symm⟩
theorem ifR {c : Prop} {dc : Decidable c} {W P : Hp → Prop} {L : Prop} {H : Hp} (st : W H) (second : ∀ H', W H' → P H') (main : c → (∀ H', W H' → P H') → L) : if c then L else P H := by
  split
  · rename_i h
    exact main h second
  · exact second H st
section
variable {P : Program} {w : World} {K : PySem.W.Frag} {mg : Str → Option Value} {base : Heap} {a : Ads}
def spLaw (K : PySem.W.Frag) : Sp := fun vs H Q _ => ∃ (s : Addr) (ns : List Int), vs = [.ref s] ∧ SqL K H s (ns.map V.int) ∧ ns.length ≤ 63 ∧ ∀ H', Q (.bl true) H'
theorem ok_law (T : Txt K mg a) : FnOk P w K mg base CX0 8 a.a_law a.d_law ["script"] (spLaw K) := by
  have G_law_pool := ok_law_pool (P := P) (w := w) (mg := mg) (base := base) T.F_law_pool
  have G_law_take := ok_law_take (P := P) (w := w) (base := base) T
  have G_law_parity := ok_law_parity (P := P) (w := w) (base := base) T
  have G_law_second := ok_law_second (P := P) (w := w) (base := base) T
  have G_law_derived := ok_law_derived (P := P) (w := w) (base := base) T
  have G_law_shaped := ok_law_shaped (P := P) (w := w) (base := base) T
  have G_law_same := ok_law_same (P := P) (w := w) (base := base) T 0
  have G_is_equivalent := ok_is_equivalent (P := P) (w := w) (base := base) T
  have G_message_rank := ok_message_rank (P := P) (w := w) (base := base) T
  have G_is_derived := ok_is_derived (P := P) (w := w) (base := base) T
  have G_basis := ok_basis (P := P) (w := w) (base := base) T
  have G_redundant := ok_redundant (P := P) (w := w) (base := base) T
  refine T.F_law.ok sc_law (fun vs H Q E h => ?_) (fun cdv A outer s H vs Q E hr h => ?_)
  · obtain ⟨_, _, rfl, _⟩ := h
    rfl
  · obtain ⟨s, ns, rfl, hS, hl, q⟩ := h
    refine ⟨_, (pss_cons (ps_set (i := 1) sc_law.nd rfl (.inr rfl) (pe_call G_law_pool (hr.mono (by first | decide | exact Nat.le_refl _ | omega)) (by rfl) T.g_law_pool T.F_law_pool.kp T.b_law_pool .nil pass0 (pa_cons (pv 0) pa_nil)))
      (pss_cons (ps_set (i := 2) sc_law.nd rfl (.inr rfl) (pe_call G_law_take (hr.mono (by first | decide | exact Nat.le_refl _ | omega)) (by rfl) T.g_law_take T.F_law_take.kp T.b_law_take .nil pass0 (pa_cons (pv 1) (pa_cons pe_int pa_nil))))
      (pss_cons (ps_set (i := 3) sc_law.nd rfl (.inr rfl) (pe_lc (own := [("k", 10)]) (g := gName 10) (tt := tYes) rfl sc_law.nd (pi_range1 (by rfl) T.z_range (pa_cons (pe_call G_law_take (hr.mono (by first | decide | exact Nat.le_refl _ | omega)) (by rfl) T.g_law_take T.F_law_take.kp T.b_law_take .nil pass0 (pa_cons (pv 1) (pa_cons pe_int pa_nil))) pa_nil)) (blkOk_by (own := [("k", 10)]) (N := sc_law_N) (sc := defScope s_law) (by decide +kernel)) (fun _ _ _ _ _ => (pg_name (i := 10) sc_law.nd rfl (.inl rfl))) (fun _ _ _ _ _ => pts_nil) (fun _ _ _ _ _ => (pe_call G_law_parity (hr.mono (by first | decide | exact Nat.le_refl _ | omega)) (by rfl) T.g_law_parity T.F_law_parity.kp T.b_law_parity .nil pass0 (pa_cons (pv 1) (pa_cons (pv 2) pa_nil))))))
      (pss_cons (ps_set (i := 4) sc_law.nd rfl (.inl rfl) (pe_call G_law_second (hr.mono (by first | decide | exact Nat.le_refl _ | omega)) (by rfl) T.g_law_second T.F_law_second.kp T.b_law_second .nil pass0 (pa_cons (pv 1) (pa_cons (pv 2) (pa_cons (pv 3) pa_nil)))))
      (pss_cons (ps_set (i := 5) sc_law.nd rfl (.inl rfl) (pe_cmpR (op_eqD hr.units) (pe_call G_law_derived (hr.mono (by first | decide | exact Nat.le_refl _ | omega)) (by rfl) T.g_law_derived T.F_law_derived.kp T.b_law_derived .nil pass0 (pa_cons (pv 3) pa_nil)) (pe_call G_law_derived (hr.mono (by first | decide | exact Nat.le_refl _ | omega)) (by rfl) T.g_law_derived T.F_law_derived.kp T.b_law_derived .nil pass0 (pa_cons (pv 4) pa_nil)) (nomark _)))
      (pss_cons (ps_if (pt_not (pt_val (pe_call G_law_same (hr.mono (by first | decide | exact Nat.le_refl _ | omega)) (by rfl) T.g_law_same T.F_law_same.kp T.b_law_same .nil pass0 (pa_cons (pe_call G_is_equivalent (hr.mono (by first | decide | exact Nat.le_refl _ | omega)) (by rfl) T.g_is_equivalent T.F_is_equivalent.kp T.b_is_equivalent .nil pass0 (pa_cons (pe_call G_law_shaped (hr.mono (by first | decide | exact Nat.le_refl _ | omega)) (by rfl) T.g_law_shaped T.F_law_shaped.kp T.b_law_shaped .nil pass0 (pa_cons (pv 1) (pa_cons (pv 3) pa_nil))) (pa_cons (pe_call G_law_shaped (hr.mono (by first | decide | exact Nat.le_refl _ | omega)) (by rfl) T.g_law_shaped T.F_law_shaped.kp T.b_law_shaped .nil pass0 (pa_cons (pv 1) (pa_cons (pv 4) pa_nil))) pa_nil))) (pa_cons (pv 5) pa_nil)))))
      (pss_one (ps_ret pe_bl))
      pss_nil)
      (pss_cons (ps_set (i := 6) sc_law.nd rfl (.inl rfl) (pe_call G_message_rank (hr.mono (by first | decide | exact Nat.le_refl _ | omega)) (by rfl) T.g_message_rank T.F_message_rank.kp T.b_message_rank .nil pass0 (pa_cons (pv 3) pa_nil)))
      (pss_cons (ps_set (i := 7) sc_law.nd rfl (.inl rfl) (pe_call G_message_rank (hr.mono (by first | decide | exact Nat.le_refl _ | omega)) (by rfl) T.g_message_rank T.F_message_rank.kp T.b_message_rank .nil pass0 (pa_cons (pv 4) pa_nil)))
      (pss_cons (ps_set (i := 8) sc_law.nd rfl (.inl rfl) (pe_call G_message_rank (hr.mono (by first | decide | exact Nat.le_refl _ | omega)) (by rfl) T.g_message_rank T.F_message_rank.kp T.b_message_rank .nil pass0 (pa_cons (pe_op op_cat (pv 3) (pv 4)) pa_nil)))
      (pss_cons (ps_if (PW.pt (pw_or (pt_not (pt_chain op_le op_le (pe_callB (call_max2 rfl) (by rfl) T.z_max (by decide +kernel) (pa_cons (pv 6) (pa_cons (pv 7) pa_nil))) (pv 8) (pe_op op_add (pv 6) (pv 7)))) (pw_or1 (pt_not (pt_val (pe_call G_law_same (hr.mono (by first | decide | exact Nat.le_refl _ | omega)) (by rfl) T.g_law_same T.F_law_same.kp T.b_law_same .nil pass0 (pa_cons (pe_call G_message_rank (hr.mono (by first | decide | exact Nat.le_refl _ | omega)) (by rfl) T.g_message_rank T.F_message_rank.kp T.b_message_rank .nil pass0 (pa_cons (pe_op op_cat (pv 4) (pv 3)) pa_nil)) (pa_cons (pv 8) pa_nil))))))))
      (pss_one (ps_ret pe_bl))
      pss_nil)
      (pss_cons (ps_if (PW.pt (pw_and (pt_cmpR op_lt (pv 6) (pv 7) (nomark _)) (pw_and1 (pt_val (pe_callB (cr_all rfl) (by rfl) T.z_all (by decide +kernel) (pa_cons (pe_lc (own := [("row", 11)]) (g := gName 11) (tt := tYes) rfl sc_law.nd (pi_list (pv 4)) (blkOk_by (own := [("row", 11)]) (N := sc_law_N) (sc := defScope s_law) (by decide +kernel)) (fun _ _ _ _ _ => (pg_name (i := 11) sc_law.nd rfl (.inl rfl))) (fun _ _ _ _ _ => pts_nil) (fun _ _ _ _ _ => (pe_call G_is_derived (hr.mono (by first | decide | exact Nat.le_refl _ | omega)) (by rfl) T.g_is_derived T.F_is_derived.kp T.b_is_derived .nil pass0 (pa_cons (pv 3) (pa_cons (pv 11) pa_nil))))) pa_nil))))))
      (pss_one (ps_ret pe_bl))
      pss_nil)
      (pss_cons (ps_set (i := 9) sc_law.nd rfl (.inr rfl) (pe_lc (own := [("k", 10)]) (g := gName 10) (tt := tYes) rfl sc_law.nd (pi_tup (pe_call G_basis (hr.mono (by first | decide | exact Nat.le_refl _ | omega)) (by rfl) T.g_basis T.F_basis.kp T.b_basis .nil pass0 (pa_cons (pv 3) pa_nil))) (blkOk_by (own := [("k", 10)]) (N := sc_law_N) (sc := defScope s_law) (by decide +kernel)) (fun _ _ _ _ _ => (pg_name (i := 10) sc_law.nd rfl (.inl rfl))) (fun _ _ _ _ _ => pts_nil) (fun _ _ _ _ _ => (pe_ix ixH (pv 3) (pv 10) (fun _ _ => rfl)))))
      (pss_cons (ps_if (PW.pt (pw_or (pt_cmpR op_ne (pe_callB callLen (by rfl) T.z_len PySem.boot_len (pa_cons (pv 9) pa_nil)) (pv 6) (nomark _)) (pw_or (pt_cmpR (op_neD hr.units) (pe_call G_redundant (hr.mono (by first | decide | exact Nat.le_refl _ | omega)) (by rfl) T.g_redundant T.F_redundant.kp T.b_redundant .nil pass0 (pa_cons (pv 9) pa_nil)) (pe_tup pa_nil) (nomark _)) (pw_or1 (pt_not (pt_val (pe_callB (cr_all rfl) (by rfl) T.z_all (by decide +kernel) (pa_cons (pe_lc (own := [("row", 11)]) (g := gName 11) (tt := tYes) rfl sc_law.nd (pi_list (pv 3)) (blkOk_by (own := [("row", 11)]) (N := sc_law_N) (sc := defScope s_law) (by decide +kernel)) (fun _ _ _ _ _ => (pg_name (i := 11) sc_law.nd rfl (.inl rfl))) (fun _ _ _ _ _ => pts_nil) (fun _ _ _ _ _ => (pe_call G_is_derived (hr.mono (by first | decide | exact Nat.le_refl _ | omega)) (by rfl) T.g_is_derived T.F_is_derived.kp T.b_is_derived .nil pass0 (pa_cons (pv 9) (pa_cons (pv 11) pa_nil))))) pa_nil))))))))
      (pss_one (ps_ret pe_bl))
      pss_nil)
      (pss_one (ps_ret (pe_and (pe_cmpR op_is_bl (pe_call G_is_equivalent (hr.mono (by first | decide | exact Nat.le_refl _ | omega)) (by rfl) T.g_is_equivalent T.F_is_equivalent.kp T.b_is_equivalent .nil pass0 (pa_cons (pv 3) (pa_cons (pv 9) pa_nil))) pe_bl (nomark _)) (pe_one (pe_or (pe_cmpR (op_neD hr.units) (pe_call G_redundant (hr.mono (by first | decide | exact Nat.le_refl _ | omega)) (by rfl) T.g_redundant T.F_redundant.kp T.b_redundant .nil pass0 (pa_cons (pv 4) pa_nil)) (pe_tup pa_nil) (nomark _)) (pe_one (pe_cmpR op_le (pe_callB callLen (by rfl) T.z_len PySem.boot_len (pa_cons (pv 4) pa_nil)) (pv 7) (nomark _))))))))))))))))))))), ?_⟩
    simp only [tSeq, tAsg, tRet, tRetN, tDrop, tIfS, tNext, tNever, tOp, tUn, tVar, tC, rI0, rI, rU, tTest, tIf, tB, tAnd, tOr, tNot, tAndV, tOrV, tNotV, gName, gSub, gTupH, gCons, gNil, tYes, tCons, tNil, tLst, tTup, tCB, tCall, tMeth, tMake, tFld, sFld, tFor_c, tLc_c, iRng1, iList, iTup, iStr, iSeqB, iEnumB, tM1, tSl, tPart, tNoPart, rSlS, rIxS, tBM, rAppend, tIf, rEq, rNe, scal, hIx, hIxT, hIxB, hSet, hInt, hIntB, hLen, hLenT, hLenB, L2.start, wipe, List.map_cons, List.map_nil, List.set_cons_zero, List.set_cons_succ, List.set_nil, List.length_cons, List.length_nil, List.length_map, List.cons_append, List.nil_append, List.append_nil, List.replicate, List.getElem?_cons_zero, List.getElem?_cons_succ, Option.some.injEq, V.int.injEq, V.bl.injEq, V.ref.injEq, V.str.injEq, List.cons.injEq, exists_eq_left', exists_eq_left, exists_and_left, and_assoc, upd_same, upd_upd, HO.lst.injEq, HO.tup.injEq, atI_0, atI_1, atI_2, atI_3, set_1, set_2, set_3, CDiv, CPow, CMul, List.length_set, Int.reduceToNat, Int.reduceLE, Int.reduceLT, Int.reducePow, Int.reduceNeg, Nat.reduceAdd, Nat.reduceLT, Nat.reduceLeDiff, Nat.reducePow, Nat.zero_add, or_true, true_or, gt_iff_lt, ge_iff_le, and_true, true_and, decide_eq_true_eq, if_true, Bool.false_eq_true, if_false]
    have w256 : ∀ {A : List Nat}, (∀ m ∈ A, m < 64) → ∀ m ∈ A, m < 256 := fun h m hm => Nat.lt_of_lt_of_le (h m hm) (by decide)
    refine ⟨s, ns, rfl, hS, hl, fun G0 H1 p s0 n0 hp => ?_⟩
    obtain ⟨c, hP⟩ := hp.at
    refine take_pool hP (by decide) (by decide) fun v H2 v0 v1 k1 _ p1 => ?_
    obtain ⟨n, rfl⟩ : ∃ n : Nat, v = n := ⟨v.toNat, by omega⟩
    refine take_pool p1 (by decide) (by decide) fun j H3 j0 j1 k2 _ p2 => ⟨j, rfl, by omega, by omega, ?_⟩
    refine lcRng (fun i D H' => ∃ ks : List Nat, H' D = some (.lst (ps ks)) ∧ (∀ m ∈ ks, m < 64) ∧ ks.length = i ∧ Off1 p H3 H' ∧ PoolAt H' p c) (fun D hD => ⟨[], upd_same, fun m h => (List.not_mem_nil h).elim, rfl, Off1.refl.new hD, p2.new hD⟩) ?_ ?_
    · rintro i D H' hD hi ⟨ks, eD, hk, lk, k3, p3⟩
      have hDp := p2.ne_p hD
      refine ⟨rfl, ?_⟩
      simp only [tSeq, tAsg, tRet, tRetN, tDrop, tIfS, tNext, tNever, tOp, tUn, tVar, tC, rI0, rI, rU, tTest, tIf, tB, tAnd, tOr, tNot, tAndV, tOrV, tNotV, gName, gSub, gTupH, gCons, gNil, tYes, tCons, tNil, tLst, tTup, tCB, tCall, tMeth, tMake, tFld, sFld, tFor_c, tLc_c, iRng1, iList, iTup, iStr, iSeqB, iEnumB, tM1, tSl, tPart, tNoPart, rSlS, rIxS, tBM, rAppend, tIf, rEq, rNe, scal, hIx, hIxT, hIxB, hSet, hInt, hIntB, hLen, hLenT, hLenB, L2.start, wipe, List.map_cons, List.map_nil, List.set_cons_zero, List.set_cons_succ, List.set_nil, List.length_cons, List.length_nil, List.length_map, List.cons_append, List.nil_append, List.append_nil, List.replicate, List.getElem?_cons_zero, List.getElem?_cons_succ, Option.some.injEq, V.int.injEq, V.bl.injEq, V.ref.injEq, V.str.injEq, List.cons.injEq, exists_eq_left', exists_eq_left, exists_and_left, and_assoc, upd_same, upd_upd, HO.lst.injEq, HO.tup.injEq, atI_0, atI_1, atI_2, atI_3, set_1, set_2, set_3, CDiv, CPow, CMul, List.length_set, Int.reduceToNat, Int.reduceLE, Int.reduceLT, Int.reducePow, Int.reduceNeg, Nat.reduceAdd, Nat.reduceLT, Nat.reduceLeDiff, Nat.reducePow, Nat.zero_add, or_true, true_or, gt_iff_lt, ge_iff_le, and_true, true_and, decide_eq_true_eq, if_true, Bool.false_eq_true, if_false]
      refine ⟨p, c, n, rfl, p3, fun m H3 hm3 _ k4 p4 => ?_⟩
      refine ⟨_, k4 _ _ hDp eD, ?_, ks ++ [m], ?_, ?_, ?_, (k3.tr k4).wr hD, p4.wr hDp (p2.ne_c hD)⟩
      · rw [List.length_map]
        exact small1000 (by omega)
      · rw [ps, ps, List.map_append]
        rfl
      · intro x hx
        rcases List.mem_append.mp hx with h | h
        · exact hk x h
        · rw [List.mem_singleton.mp h]; exact hm3
      · rw [List.length_append, lk]; rfl
    rintro F H4 hF ⟨A, eF, hA, lA, k3, p3⟩
    have nF := p2.ne_p hF
    have lA7 : A.length ≤ 7 := by omega
    refine ⟨p, c, F, n, A, rfl, p3, eF, nF, hA, lA7, fun G B H5 k4 p4 eG nG hB lB => ?_⟩
    have st : St7 p c F G A B H5 := ⟨p4, k4 _ _ nF eF, eG, nF, nG⟩
    refine ⟨F, A, rfl, st.eA, hA, by omega, fun ya Da H6 pa sa s6 _ ea => ?_⟩
    refine ⟨G, B, rfl, (st.same s6).eB, hB, by omega, fun yb Db H7 pb sb s7 _ eb => ?_⟩
    have st := (st.same s6).same s7
    have okS : ∀ {A : List Nat} {ys : List Str}, (∀ m ∈ A, m < 64) → ys.Perm ((der A).map pt) → SeqAt.shaped (.list (ys.map PyData.str)) = true := fun hA hp => by
      refine shaped_strs (fun x hx => ?_) ?_
      · obtain ⟨m, hm, rfl⟩ := List.mem_map.mp (hp.mem_iff.mp hx)
        exact strOk_pt (Nat.lt_of_lt_of_le (der_lt hA m hm) (by decide))
      · rw [hp.length_eq, List.length_map]
        have := der_len hA
        omega
    refine ⟨_, _, dp_strs (SqL.of (s7 _ _ ea)), dp_strs (SqL.of eb), okS hA pa, okS hB pb, ?_⟩
    rw [eqv_strs]
    refine ⟨p, c, F, _, rfl, st.pool, st.eA, st.nF, by rw [List.length_map]; omega, fun t1 H8 k8 p8 r1 n1 => ?_⟩
    have st := st.off k8 p8
    refine ⟨p, c, G, _, rfl, st.pool, st.eB, st.nG, by rw [List.length_map]; omega, fun t2 H9 k9 p9 r2 n2 => ?_⟩
    have r1 := rowOff r1 st.pool k9 n1
    have st := st.off k9 p9
    refine ⟨t1, t2, A, B, rfl, r1, r2, w256 hA, w256 hB, by omega, by omega, fun H10 s10 => ?_⟩
    have st := st.same s10
    rw [show decide (rank A = rank B ∧ rank B = (spn (spn B []) (spn A [])).length) = decide (ya = yb) from decide_eq_decide.mpr ((equiv A B).trans (alike_iff hA hB pa sa pb sb))]
    refine ⟨_, _, rfl, .bl 0 _, fun H11 s11 => ⟨true, rfl, ?_⟩⟩
    have st := st.same s11
    rw [if_neg (show ¬(!true) = true by decide)]
    refine ⟨F, A, rfl, .inl st.eA, w256 hA, by omega, fun H12 s12 => ?_⟩
    have st := st.same s12
    refine ⟨G, B, rfl, .inl st.eB, w256 hB, by omega, fun H13 s13 => ?_⟩
    have st := st.same s13
    refine ⟨F, G, _, _, rfl, rfl, st.eA, st.eB, ?_, fun C hC => ?_⟩
    · rw [List.length_map, List.length_map]
      exact sizeLe (by omega)
    have st := st.same (same_new (o := .lst (ps A ++ ps B)) hC)
    have hAB : ∀ m ∈ A ++ B, m < 64 := fun m h => (List.mem_append.mp h).elim (hA m) (hB m)
    have hBA : ∀ m ∈ B ++ A, m < 64 := fun m h => (List.mem_append.mp h).elim (hB m) (hA m)
    refine ⟨C, A ++ B, rfl, .inl (by rw [upd_same, ps, ps, ps, List.map_append]), w256 hAB, by rw [List.length_append]; omega, fun H14 s14 => ?_⟩
    have st := st.same s14
    unfold tChain
    simp only [tSeq, tAsg, tRet, tRetN, tDrop, tIfS, tNext, tNever, tOp, tUn, tVar, tC, rI0, rI, rU, tTest, tIf, tB, tAnd, tOr, tNot, tAndV, tOrV, tNotV, gName, gSub, gTupH, gCons, gNil, tYes, tCons, tNil, tLst, tTup, tCB, tCall, tMeth, tMake, tFld, sFld, tFor_c, tLc_c, iRng1, iList, iTup, iStr, iSeqB, iEnumB, tM1, tSl, tPart, tNoPart, rSlS, rIxS, tBM, rAppend, tIf, rEq, rNe, scal, hIx, hIxT, hIxB, hSet, hInt, hIntB, hLen, hLenT, hLenB, L2.start, wipe, List.map_cons, List.map_nil, List.set_cons_zero, List.set_cons_succ, List.set_nil, List.length_cons, List.length_nil, List.length_map, List.cons_append, List.nil_append, List.append_nil, List.replicate, List.getElem?_cons_zero, List.getElem?_cons_succ, Option.some.injEq, V.int.injEq, V.bl.injEq, V.ref.injEq, V.str.injEq, List.cons.injEq, exists_eq_left', exists_eq_left, exists_and_left, and_assoc, upd_same, upd_upd, HO.lst.injEq, HO.tup.injEq, atI_0, atI_1, atI_2, atI_3, set_1, set_2, set_3, CDiv, CPow, CMul, List.length_set, Int.reduceToNat, Int.reduceLE, Int.reduceLT, Int.reducePow, Int.reduceNeg, Nat.reduceAdd, Nat.reduceLT, Nat.reduceLeDiff, Nat.reducePow, Nat.zero_add, or_true, true_or, gt_iff_lt, ge_iff_le, and_true, true_and, decide_eq_true_eq, if_true, Bool.false_eq_true, if_false]
    have i1 : (if ((rank A : Nat) : Int) < ((rank B : Nat) : Int) then ((rank B : Nat) : Int) else ((rank A : Nat) : Int)) ≤ ((rank (A ++ B) : Nat) : Int) := by
      have a1 : rank A ≤ rank (A ++ B) := rank_le fun x h => S_left B h
      have a2 : rank B ≤ rank (A ++ B) := rank_le fun x h => S_right A h
      split <;> omega
    have i2 : ((rank (A ++ B) : Nat) : Int) ≤ ((rank A : Nat) : Int) + ((rank B : Nat) : Int) := by
      have := rank_add A B
      omega
    rw [if_pos i1, decide_eq_true i2, if_neg (show ¬(!true) = true by decide)]
    refine ⟨G, F, _, _, rfl, rfl, st.eB, st.eA, ?_, fun C2 hC2 => ?_⟩
    · rw [List.length_map, List.length_map]
      exact sizeLe (by omega)
    have st := st.same (same_new (o := .lst (ps B ++ ps A)) hC2)
    refine ⟨C2, B ++ A, rfl, .inl (by rw [upd_same, ps, ps, ps, List.map_append]), w256 hBA, by rw [List.length_append]; omega, fun H15 s15 => ?_⟩
    have st := st.same s15
    rw [rank_comm B A]
    refine ⟨_, _, rfl, .int 0 _, fun H16 s16 => ⟨true, rfl, ?_⟩⟩
    have st := st.same s16
    rw [if_neg (show ¬(!true) = true by decide)]
    refine ifR (H := H16) (W := St7 p c F G A B) (P := fun H1 => spBasis [V.ref F] H1 _ E0) st ?second ?main
    case main =>
      intro c1 R
      have c1 : rank A < rank B := by exact_mod_cast c1
      refine ⟨⟨_, SqL.of st.eB⟩, ?_⟩
      refine lcLst (xs := ps B) (fun i D H' => H' D = some (.lst ((((B.take i).map fun m => decide (rem (spn A []) m = 0))).map V.bl)) ∧ Same H16 H') (fun D hD => ⟨upd_same, same_new hD⟩) (fun i D H' _ _ z => SqL.of (z.2 _ _ st.eB)) ?_ ?_
      · rintro i x D H' hD hx ⟨eD, s1⟩
        obtain ⟨m, hm, rfl⟩ := ps_at hx
        refine ⟨rfl, ?_⟩
        simp only [tSeq, tAsg, tRet, tRetN, tDrop, tIfS, tNext, tNever, tOp, tUn, tVar, tC, rI0, rI, rU, tTest, tIf, tB, tAnd, tOr, tNot, tAndV, tOrV, tNotV, gName, gSub, gTupH, gCons, gNil, tYes, tCons, tNil, tLst, tTup, tCB, tCall, tMeth, tMake, tFld, sFld, tFor_c, tLc_c, iRng1, iList, iTup, iStr, iSeqB, iEnumB, tM1, tSl, tPart, tNoPart, rSlS, rIxS, tBM, rAppend, tIf, rEq, rNe, scal, hIx, hIxT, hIxB, hSet, hInt, hIntB, hLen, hLenT, hLenB, L2.start, wipe, List.map_cons, List.map_nil, List.set_cons_zero, List.set_cons_succ, List.set_nil, List.length_cons, List.length_nil, List.length_map, List.cons_append, List.nil_append, List.append_nil, List.replicate, List.getElem?_cons_zero, List.getElem?_cons_succ, Option.some.injEq, V.int.injEq, V.bl.injEq, V.ref.injEq, V.str.injEq, List.cons.injEq, exists_eq_left', exists_eq_left, exists_and_left, and_assoc, upd_same, upd_upd, HO.lst.injEq, HO.tup.injEq, atI_0, atI_1, atI_2, atI_3, set_1, set_2, set_3, CDiv, CPow, CMul, List.length_set, Int.reduceToNat, Int.reduceLE, Int.reduceLT, Int.reducePow, Int.reduceNeg, Nat.reduceAdd, Nat.reduceLT, Nat.reduceLeDiff, Nat.reducePow, Nat.zero_add, or_true, true_or, gt_iff_lt, ge_iff_le, and_true, true_and, decide_eq_true_eq, if_true, Bool.false_eq_true, if_false]
        refine ⟨F, A, m, rfl, .inl (s1 _ _ st.eA), w256 hA, w256 hB m (List.mem_of_getElem? hm), by omega, fun H17 s17 => ?_⟩
        refine ⟨_, s17 _ _ eD, ?_, ?_, same_out (Same.tr s1 s17) hD⟩
        · rw [List.length_map, List.length_map, List.length_take]
          exact small1000 (by omega)
        · rw [take_s hm, List.map_append, List.map_append]
          rfl
      · rintro D H' hD ⟨eD, s1⟩
        rw [show (ps B).length = B.length from List.length_map _, List.take_of_length_le (Nat.le_refl _)] at eD
        refine ⟨D, _, rfl, SqL.of eD, false, ?_, ?_⟩
        · refine congrArg V.bl ?_
          refine (List.all_eq_false.mpr ?_)
          refine Classical.byContradiction fun hno => ?_
          have hall : ∀ m ∈ B, S A m := fun m hm => by
            refine (S_spn0 A m).mp ((rem_zero (good_spn A [] trivial) m).mp (Classical.byContradiction fun h => hno ⟨false, List.mem_map.mpr ⟨m, hm, decide_eq_false h⟩, by decide⟩))
          have := rank_le (A := B) (B := A) (S_sub hall)
          omega
        · rw [if_neg (by decide)]
          exact R _ (st.same s1)
    case second =>
      intro H1 st
      have hC : ∀ m ∈ cho A [], m ∈ A := cho_sub A []
      have lC : (cho A []).length ≤ 7 := by
        have := rank_len A
        rw [cho_rank]
        omega
      have hC64 : ∀ m ∈ cho A [], m < 64 := fun m h => hA m (hC m h)
      refine ⟨F, A, rfl, .inl st.eA, w256 hA, by omega, fun D1 H2 s2 e2 => ?_⟩
      have st := st.same s2
      refine ⟨D1, rfl, ⟨_, SqT.of e2⟩, ?_⟩
      refine lcTup (xs := ni (bas A [] 0)) (fun i D H' => H' D = some (.lst (ps ((cho A []).take i))) ∧ Same H2 H') (fun D hD => ⟨upd_same, same_new hD⟩) (fun i D H' _ _ z => SqT.of (z.2 _ _ e2)) ?_ ?_
      · rintro i x D H' hD hx ⟨eD, s1⟩
        obtain ⟨k, hk, rfl⟩ := ni_at hx
        refine ⟨rfl, ?_⟩
        simp only [tSeq, tAsg, tRet, tRetN, tDrop, tIfS, tNext, tNever, tOp, tUn, tVar, tC, rI0, rI, rU, tTest, tIf, tB, tAnd, tOr, tNot, tAndV, tOrV, tNotV, gName, gSub, gTupH, gCons, gNil, tYes, tCons, tNil, tLst, tTup, tCB, tCall, tMeth, tMake, tFld, sFld, tFor_c, tLc_c, iRng1, iList, iTup, iStr, iSeqB, iEnumB, tM1, tSl, tPart, tNoPart, rSlS, rIxS, tBM, rAppend, tIf, rEq, rNe, scal, hIx, hIxT, hIxB, hSet, hInt, hIntB, hLen, hLenT, hLenB, L2.start, wipe, List.map_cons, List.map_nil, List.set_cons_zero, List.set_cons_succ, List.set_nil, List.length_cons, List.length_nil, List.length_map, List.cons_append, List.nil_append, List.append_nil, List.replicate, List.getElem?_cons_zero, List.getElem?_cons_succ, Option.some.injEq, V.int.injEq, V.bl.injEq, V.ref.injEq, V.str.injEq, List.cons.injEq, exists_eq_left', exists_eq_left, exists_and_left, and_assoc, upd_same, upd_upd, HO.lst.injEq, HO.tup.injEq, atI_0, atI_1, atI_2, atI_3, set_1, set_2, set_3, CDiv, CPow, CMul, List.length_set, Int.reduceToNat, Int.reduceLE, Int.reduceLT, Int.reducePow, Int.reduceNeg, Nat.reduceAdd, Nat.reduceLT, Nat.reduceLeDiff, Nat.reducePow, Nat.zero_add, or_true, true_or, gt_iff_lt, ge_iff_le, and_true, true_and, decide_eq_true_eq, if_true, Bool.false_eq_true, if_false]
        obtain ⟨m, hm1, hm2⟩ := bas_cho_at hk
        refine ⟨_, s1 _ _ st.eA, _, atI_nat (by rw [List.getElem?_map, hm2]; rfl), _, eD, ?_, ?_, same_out s1 hD⟩
        · rw [List.length_map, List.length_take]
          exact small1000 (by omega)
        · rw [take_s hm1, ps, ps, List.map_append]
          rfl
      · rintro D H' hD ⟨eD, s1⟩
        rw [ni_len, bas_len, List.take_of_length_le (Nat.le_refl _)] at eD
        have st := st.same s1
        refine ⟨D, rfl, _, eD, ?_⟩
        rw [show (ps (cho A [])).length = (cho A []).length from List.length_map _, cho_rank, decide_eq_true rfl, if_neg (show ¬(!true) = true by decide)]
        refine ⟨D, cho A [], rfl, .inl eD, w256 hC64, by omega, fun D2 H3 s3 e3 => ?_⟩
        have st := st.same s3
        have eD := s3 _ _ eD
        rw [redu_free (ms := cho A []) (by rw [rank_cho])] at e3
        refine ⟨Nat.zero_le _, fun D3 h3 => ?_⟩
        have s4 := same_new (o := .tup []) h3
        have st := st.same s4
        have eD := s4 _ _ eD
        have e30 := s4 _ _ e3
        refine ⟨_, _, dp_tints (l := []) (SqT.of e30), dp_tints (l := []) (SqT.of upd_same), shaped_tints _, shaped_tints _, ?_⟩
        rw [eqv_tnil]
        refine ⟨false, rfl, ?_⟩
        rw [if_neg (by decide)]
        refine ⟨⟨_, SqL.of st.eA⟩, ?_⟩
        generalize hH4 : upd H3 D3 (.tup []) = H4 at st eD
        refine lcLst (xs := ps A) (fun i D' H' => H' D' = some (.lst ((List.replicate i true).map V.bl)) ∧ Same H4 H') (fun D' hD => ⟨upd_same, same_new hD⟩) (fun i D' H' _ _ z => SqL.of (z.2 _ _ st.eA)) ?_ ?_
        · rintro i x D' H' hD hx ⟨eD', s1⟩
          obtain ⟨m, hm, rfl⟩ := ps_at hx
          have hi : i < A.length := (List.getElem?_eq_some_iff.mp hm).1
          refine ⟨rfl, ?_⟩
          simp only [tSeq, tAsg, tRet, tRetN, tDrop, tIfS, tNext, tNever, tOp, tUn, tVar, tC, rI0, rI, rU, tTest, tIf, tB, tAnd, tOr, tNot, tAndV, tOrV, tNotV, gName, gSub, gTupH, gCons, gNil, tYes, tCons, tNil, tLst, tTup, tCB, tCall, tMeth, tMake, tFld, sFld, tFor_c, tLc_c, iRng1, iList, iTup, iStr, iSeqB, iEnumB, tM1, tSl, tPart, tNoPart, rSlS, rIxS, tBM, rAppend, tIf, rEq, rNe, scal, hIx, hIxT, hIxB, hSet, hInt, hIntB, hLen, hLenT, hLenB, L2.start, wipe, List.map_cons, List.map_nil, List.set_cons_zero, List.set_cons_succ, List.set_nil, List.length_cons, List.length_nil, List.length_map, List.cons_append, List.nil_append, List.append_nil, List.replicate, List.getElem?_cons_zero, List.getElem?_cons_succ, Option.some.injEq, V.int.injEq, V.bl.injEq, V.ref.injEq, V.str.injEq, List.cons.injEq, exists_eq_left', exists_eq_left, exists_and_left, and_assoc, upd_same, upd_upd, HO.lst.injEq, HO.tup.injEq, atI_0, atI_1, atI_2, atI_3, set_1, set_2, set_3, CDiv, CPow, CMul, List.length_set, Int.reduceToNat, Int.reduceLE, Int.reduceLT, Int.reducePow, Int.reduceNeg, Nat.reduceAdd, Nat.reduceLT, Nat.reduceLeDiff, Nat.reducePow, Nat.zero_add, or_true, true_or, gt_iff_lt, ge_iff_le, and_true, true_and, decide_eq_true_eq, if_true, Bool.false_eq_true, if_false]
          refine ⟨D, cho A [], m, rfl, .inl (s1 _ _ eD), w256 hC64, w256 hA m (List.mem_of_getElem? hm), by omega, fun H17 s17 => ?_⟩
          have ed : decide (rem (spn (cho A []) []) m = 0) = true := decide_eq_true ((rem_zero (good_spn _ [] trivial) m).mpr ((S_spn0 _ m).mpr ((S_cho A m).mpr (S_mem A m (List.mem_of_getElem? hm)))))
          rw [ed]
          refine ⟨_, s17 _ _ eD', by rw [List.length_map, List.length_replicate]; exact small1000 (by omega), ?_, same_out (Same.tr s1 s17) hD⟩
          exact rep_snoc i
        · rintro D' H' hD ⟨eD', s1⟩
          have st := st.same s1
          have eD := s1 _ _ eD
          refine ⟨D', _, rfl, SqL.of eD', true, ?_, ?_⟩
          · rw [show (List.replicate (ps A).length true).all id = true from by simp]
          rw [if_neg (show ¬(!true) = true by decide)]
          refine ⟨F, D, A, cho A [], rfl, .inl st.eA, .inl eD, w256 hA, w256 hC64, by omega, by omega, fun H18 s18 => ?_⟩
          have st := st.same s18
          rw [decide_eq_true ((equiv A (cho A [])).mpr fun x => (S_cho A x).symm)]
          refine ⟨true, rfl, ?_⟩
          rw [if_pos rfl]
          refine ⟨G, B, rfl, .inl st.eB, w256 hB, by omega, fun D5 H19 s19 e5 => ?_⟩
          have st := st.same s19
          refine ⟨Nat.zero_le _, fun D6 h6 => ?_⟩
          have s20 := same_new (o := .tup []) h6
          have st := st.same s20
          refine ⟨_, _, dp_tints (SqT.of (s20 _ _ e5)), dp_tints (l := []) (SqT.of upd_same), shaped_tints _, shaped_tints _, ?_⟩
          rw [eqv_tnil]
          by_cases hB0 : redu B = []
          · refine ⟨false, by rw [decide_eq_true hB0]; rfl, ?_⟩
            rw [if_neg (by decide)]
            refine ⟨_, st.eB, ?_⟩
            rw [show (ps B).length = B.length from List.length_map _, redu_nil hB0, decide_eq_true (Int.le_refl _)]
            exact q _
          · refine ⟨true, by rw [decide_eq_false hB0]; rfl, ?_⟩
            rw [if_pos rfl]
            exact q _
end
end AK
set_option Elab.async false
set_option linter.all false
set_option maxRecDepth 100000
set_option maxHeartbeats 0
namespace AK
open PySem PySem.Spec PyProof.Rows L2
theorem law_at {l : PySem.W.OpenLaw} {w : World} {K : PySem.W.Frag} {mg : Str → Option Value} {h : Heap} {fa : Addr} {a : Ads} (X : K.In h) (T : Txt K mg a) (ea : a.a_law = fa) :
    LamX.LawAtS l w K CX0 8 63 "script" mg fa h := by
  subst ea
  refine ⟨a.d_law, [], spLaw K, (fun p hp => (List.not_mem_nil hp).elim), (fun p hp => (List.not_mem_nil hp).elim), (fun p hp => (List.not_mem_nil hp).elim), ?_, ?_, ?_⟩
  · intro s u
    exact T.B_law s u
  · intro H b ns hl hb hH hS
    exact ⟨b, ns, rfl, hS, hl, fun _ => rfl⟩
  · intro base hb hg hT
    exact ok_law T
def dd_is_ascending : He.DefD := ⟨("is_ascending", none), "is_ascending", "is_ascending", defArgs s_is_ascending, defBody s_is_ascending, defScope s_is_ascending, [], []⟩
def dd_is_parity : He.DefD := ⟨("is_parity", none), "is_parity", "is_parity", defArgs s_is_parity, defBody s_is_parity, defScope s_is_parity, [], []⟩
def dd_mask_of : He.DefD := ⟨("mask_of", none), "mask_of", "mask_of", defArgs s_mask_of, defBody s_mask_of, defScope s_mask_of, [], []⟩
def dd_remainder : He.DefD := ⟨("remainder", none), "remainder", "remainder", defArgs s_remainder, defBody s_remainder, defScope s_remainder, [], []⟩
def dd_spanned : He.DefD := ⟨("spanned", none), "spanned", "spanned", defArgs s_spanned, defBody s_spanned, defScope s_spanned, [.adr (He.dflAt ("spanned", none) 0)], []⟩
def dd_basis_indices : He.DefD := ⟨("basis_indices", none), "basis_indices", "basis_indices", defArgs s_basis_indices, defBody s_basis_indices, defScope s_basis_indices, [], []⟩
def dd_message_rank : He.DefD := ⟨("message_rank", none), "message_rank", "message_rank", defArgs s_message_rank, defBody s_message_rank, defScope s_message_rank, [], []⟩
def dd_is_derived : He.DefD := ⟨("is_derived", none), "is_derived", "is_derived", defArgs s_is_derived, defBody s_is_derived, defScope s_is_derived, [], []⟩
def dd_basis : He.DefD := ⟨("basis", none), "basis", "basis", defArgs s_basis, defBody s_basis, defScope s_basis, [], []⟩
def dd_redundant : He.DefD := ⟨("redundant", none), "redundant", "redundant", defArgs s_redundant, defBody s_redundant, defScope s_redundant, [], []⟩
def dd_is_equivalent : He.DefD := ⟨("is_equivalent", none), "is_equivalent", "is_equivalent", defArgs s_is_equivalent, defBody s_is_equivalent, defScope s_is_equivalent, [], []⟩
def dd_parity_mask : He.DefD := ⟨("parity_mask", none), "parity_mask", "parity_mask", defArgs s_parity_mask, defBody s_parity_mask, defScope s_parity_mask, [], []⟩
def dd_message_masks : He.DefD := ⟨("_message_masks", none), "_message_masks", "_message_masks", defArgs s_message_masks, defBody s_message_masks, defScope s_message_masks, [], []⟩
def dd_is_derived_from_others : He.DefD := ⟨("_is_derived_from_others", none), "_is_derived_from_others", "_is_derived_from_others", defArgs s_is_derived_from_others, defBody s_is_derived_from_others, defScope s_is_derived_from_others, [], []⟩
def dd_law_pool : He.DefD := ⟨("_law_pool", none), "_law_pool", "_law_pool", defArgs s_law_pool, defBody s_law_pool, defScope s_law_pool, [], []⟩
def dd_law_take : He.DefD := ⟨("_law_take", none), "_law_take", "_law_take", defArgs s_law_take, defBody s_law_take, defScope s_law_take, [], []⟩
def dd_law_is_integer : He.DefD := ⟨("_law_is_integer", none), "_law_is_integer", "_law_is_integer", defArgs s_law_is_integer, defBody s_law_is_integer, defScope s_law_is_integer, [], []⟩
def dd_law_same : He.DefD := ⟨("_law_same", none), "_law_same", "_law_same", defArgs s_law_same, defBody s_law_same, defScope s_law_same, [], []⟩
def dd_law_pick : He.DefD := ⟨("_law_pick", none), "_law_pick", "_law_pick", defArgs s_law_pick, defBody s_law_pick, defScope s_law_pick, [], []⟩
def dd_law_parity : He.DefD := ⟨("_law_parity", none), "_law_parity", "_law_parity", defArgs s_law_parity, defBody s_law_parity, defScope s_law_parity, [], []⟩
def dd_law_sum : He.DefD := ⟨("_law_sum", none), "_law_sum", "_law_sum", defArgs s_law_sum, defBody s_law_sum, defScope s_law_sum, [], []⟩
def dd_law_derived : He.DefD := ⟨("_law_derived", none), "_law_derived", "_law_derived", defArgs s_law_derived, defBody s_law_derived, defScope s_law_derived, [], []⟩
def dd_law_shaped : He.DefD := ⟨("_law_shaped", none), "_law_shaped", "_law_shaped", defArgs s_law_shaped, defBody s_law_shaped, defScope s_law_shaped, [], []⟩
def dd_law_second : He.DefD := ⟨("_law_second", none), "_law_second", "_law_second", defArgs s_law_second, defBody s_law_second, defScope s_law_second, [], []⟩
def dd_law : He.DefD := ⟨("law", none), "law", "law", defArgs s_law, defBody s_law, defScope s_law, [], []⟩
def fnL : List He.DefD := [dd_is_ascending, dd_is_parity, dd_mask_of, dd_remainder, dd_spanned, dd_basis_indices, dd_message_rank, dd_is_derived, dd_basis, dd_redundant, dd_is_equivalent, dd_parity_mask, dd_message_masks, dd_is_derived_from_others, dd_law_pool, dd_law_take, dd_law_is_integer, dd_law_same, dd_law_pick, dd_law_parity, dd_law_sum, dd_law_derived, dd_law_shaped, dd_law_second, dd_law]
def faL : List He.Fa := [.glo "is_ascending",
  .glo "is_parity",
  .glo "mask_of",
  .glo "remainder",
  .glo "spanned",
  .glo "basis_indices",
  .glo "message_rank",
  .glo "is_derived",
  .glo "basis",
  .glo "redundant",
  .glo "is_equivalent",
  .glo "parity_mask",
  .glo "_message_masks",
  .glo "_is_derived_from_others",
  .glo "_law_pool",
  .glo "_law_take",
  .glo "_law_is_integer",
  .glo "_law_same",
  .glo "_law_pick",
  .glo "_law_parity",
  .glo "_law_sum",
  .glo "_law_derived",
  .glo "_law_shaped",
  .glo "_law_second",
  .glo "law",
  .str "PARITY_LETTERS" "abcdefgh",
  .free "len",
  .free "int",
  .free "max",
  .free "min",
  .free "sum",
  .free "sorted",
  .free "range",
  .free "tuple",
  .free "list",
  .free "isinstance",
  .free "enumerate",
  .free "all",
  .free "bool",
  .free "str"]
def exL (K : PySem.W.Frag) : List Bool := [tup0B K (He.dflAt ("spanned", none) 0 K),
  PySem.W.keepIn K (.ref (He.fAd K ("spanned", none)))]
def exB (K : PySem.W.Frag) : Bool := (exL K).all id
abbrev R0 : PySem.W.OpenRow := PySem.W.OpenLaw.row PySem.Challenge.rw_allknow_k07_whole_exchange
def tfL : List He.Defn := []
abbrev hkX : PySem.W.Hook := He.hookX 6 faL fnL [] tfL exB
def obX (s : PySem.W.SharedT) : He.AlX := He.obsX 6 faL fnL [] tfL exB (HandSHeadRun.getT s)
theorem obX_eq (s : PySem.W.SharedT) : obX s = hkX.obs s.abs := He.obsX_eq (HandSHeadRun.getT_eq s)
def looseL : List PySem.Str := ["__name__", "KnowError", "is_ascending", "PARITY_LETTERS", "is_parity", "mask_of", "remainder", "spanned", "basis_indices", "BadParity", "message_rank", "is_derived", "basis", "redundant", "is_equivalent", "parity_mask", "_message_masks", "_is_derived_from_others", "_law_pool", "_law_take", "_law_is_integer", "_law_same", "_law_pick", "_law_parity", "_law_sum", "_law_derived", "_law_shaped", "_law_second"]
theorem runX (w : World) : HandSHeadRun.RunEq R0 (PySem.W.view R0.prog [32]) hkX obX 2500 looseL w := by
  intro os
  kernel_rfl
theorem txt_of {K : PySem.W.Frag} {h : Heap} {mg : Str → Option Value} {w : World} (X : K.In h) (G : h.Ns mainGlobals mg) (c : He.SaysX faL fnL [] tfL exB w h K) :
    ∃ a : Ads, Txt K mg a ∧ a.a_law = He.ga K "law" := by
  have hx : ∀ (i : Nat) {b : Bool}, (exL K)[i]? = some b → b = true := fun i b e => List.all_eq_true.mp c.more b (List.mem_of_getElem? e)
  obtain ⟨fd_is_ascending, FD_is_ascending⟩ := c.t.d.def_ 0 (d := dd_is_ascending) rfl
  have F_is_ascending : Fun K "is_ascending" "is_ascending" s_is_ascending (He.fAd K ("is_ascending", none)) fd_is_ascending := fun_of FD_is_ascending
  have b_is_ascending := F_is_ascending.binds (ps := ["letters", "text"]) fun _ _ _ _ _ _ us hl => match us, hl with | [_, _], _ => rfl
  obtain ⟨fd_is_parity, FD_is_parity⟩ := c.t.d.def_ 1 (d := dd_is_parity) rfl
  have F_is_parity : Fun K "is_parity" "is_parity" s_is_parity (He.fAd K ("is_parity", none)) fd_is_parity := fun_of FD_is_parity
  have b_is_parity := F_is_parity.binds (ps := ["text"]) fun _ _ _ _ _ _ us hl => match us, hl with | [_], _ => rfl
  obtain ⟨fd_mask_of, FD_mask_of⟩ := c.t.d.def_ 2 (d := dd_mask_of) rfl
  have F_mask_of : Fun K "mask_of" "mask_of" s_mask_of (He.fAd K ("mask_of", none)) fd_mask_of := fun_of FD_mask_of
  have b_mask_of := F_mask_of.binds (ps := ["parity"]) fun _ _ _ _ _ _ us hl => match us, hl with | [_], _ => rfl
  obtain ⟨fd_remainder, FD_remainder⟩ := c.t.d.def_ 3 (d := dd_remainder) rfl
  have F_remainder : Fun K "remainder" "remainder" s_remainder (He.fAd K ("remainder", none)) fd_remainder := fun_of FD_remainder
  have b_remainder := F_remainder.binds (ps := ["span", "mask"]) fun _ _ _ _ _ _ us hl => match us, hl with | [_, _], _ => rfl
  obtain ⟨fd_spanned, FD_spanned⟩ := c.t.d.def_ 4 (d := dd_spanned) rfl
  have b_spanned : Binds K fd_spanned ["masks", "span"] [] := def_all FD_spanned 2 rfl (fun _ _ _ _ _ _ _ us its hl hi => match us, its, hl, hi with | [_, _], [_], _, _ => ⟨_, rfl, rfl⟩)
  have b1_spanned : ∃ ds, Vals [V.ref (He.dflAt ("spanned", none) 0 K)] ds ∧ Binds K fd_spanned ["masks", "span"] ds := FunD.binds1 FD_spanned 1 0 (by simp [He.DefD.dvs, dd_spanned]) (by rfl) (fun _ _ _ _ _ _ _ us its hl hi => match us, its, hl, hi with | [_], [_], _, _ => ⟨_, rfl, rfl⟩)
  obtain ⟨fd_basis_indices, FD_basis_indices⟩ := c.t.d.def_ 5 (d := dd_basis_indices) rfl
  have F_basis_indices : Fun K "basis_indices" "basis_indices" s_basis_indices (He.fAd K ("basis_indices", none)) fd_basis_indices := fun_of FD_basis_indices
  have b_basis_indices := F_basis_indices.binds (ps := ["masks"]) fun _ _ _ _ _ _ us hl => match us, hl with | [_], _ => rfl
  obtain ⟨fd_message_rank, FD_message_rank⟩ := c.t.d.def_ 6 (d := dd_message_rank) rfl
  have F_message_rank : Fun K "message_rank" "message_rank" s_message_rank (He.fAd K ("message_rank", none)) fd_message_rank := fun_of FD_message_rank
  have b_message_rank := F_message_rank.binds (ps := ["messages"]) fun _ _ _ _ _ _ us hl => match us, hl with | [_], _ => rfl
  obtain ⟨fd_is_derived, FD_is_derived⟩ := c.t.d.def_ 7 (d := dd_is_derived) rfl
  have F_is_derived : Fun K "is_derived" "is_derived" s_is_derived (He.fAd K ("is_derived", none)) fd_is_derived := fun_of FD_is_derived
  have b_is_derived := F_is_derived.binds (ps := ["messages", "parity"]) fun _ _ _ _ _ _ us hl => match us, hl with | [_, _], _ => rfl
  obtain ⟨fd_basis, FD_basis⟩ := c.t.d.def_ 8 (d := dd_basis) rfl
  have F_basis : Fun K "basis" "basis" s_basis (He.fAd K ("basis", none)) fd_basis := fun_of FD_basis
  have b_basis := F_basis.binds (ps := ["messages"]) fun _ _ _ _ _ _ us hl => match us, hl with | [_], _ => rfl
  obtain ⟨fd_redundant, FD_redundant⟩ := c.t.d.def_ 9 (d := dd_redundant) rfl
  have F_redundant : Fun K "redundant" "redundant" s_redundant (He.fAd K ("redundant", none)) fd_redundant := fun_of FD_redundant
  have b_redundant := F_redundant.binds (ps := ["messages"]) fun _ _ _ _ _ _ us hl => match us, hl with | [_], _ => rfl
  obtain ⟨fd_is_equivalent, FD_is_equivalent⟩ := c.t.d.def_ 10 (d := dd_is_equivalent) rfl
  have F_is_equivalent : Fun K "is_equivalent" "is_equivalent" s_is_equivalent (He.fAd K ("is_equivalent", none)) fd_is_equivalent := fun_of FD_is_equivalent
  have b_is_equivalent := F_is_equivalent.binds (ps := ["first", "second"]) fun _ _ _ _ _ _ us hl => match us, hl with | [_, _], _ => rfl
  obtain ⟨fd_parity_mask, FD_parity_mask⟩ := c.t.d.def_ 11 (d := dd_parity_mask) rfl
  have F_parity_mask : Fun K "parity_mask" "parity_mask" s_parity_mask (He.fAd K ("parity_mask", none)) fd_parity_mask := fun_of FD_parity_mask
  have b_parity_mask := F_parity_mask.binds (ps := ["text"]) fun _ _ _ _ _ _ us hl => match us, hl with | [_], _ => rfl
  obtain ⟨fd_message_masks, FD_message_masks⟩ := c.t.d.def_ 12 (d := dd_message_masks) rfl
  have F_message_masks : Fun K "_message_masks" "_message_masks" s_message_masks (He.fAd K ("_message_masks", none)) fd_message_masks := fun_of FD_message_masks
  have b_message_masks := F_message_masks.binds (ps := ["messages"]) fun _ _ _ _ _ _ us hl => match us, hl with | [_], _ => rfl
  obtain ⟨fd_is_derived_from_others, FD_is_derived_from_others⟩ := c.t.d.def_ 13 (d := dd_is_derived_from_others) rfl
  have F_is_derived_from_others : Fun K "_is_derived_from_others" "_is_derived_from_others" s_is_derived_from_others (He.fAd K ("_is_derived_from_others", none)) fd_is_derived_from_others := fun_of FD_is_derived_from_others
  have b_is_derived_from_others := F_is_derived_from_others.binds (ps := ["masks", "index"]) fun _ _ _ _ _ _ us hl => match us, hl with | [_, _], _ => rfl
  obtain ⟨fd_law_pool, FD_law_pool⟩ := c.t.d.def_ 14 (d := dd_law_pool) rfl
  have F_law_pool : Fun K "_law_pool" "_law_pool" s_law_pool (He.fAd K ("_law_pool", none)) fd_law_pool := fun_of FD_law_pool
  have b_law_pool := F_law_pool.binds (ps := ["script"]) fun _ _ _ _ _ _ us hl => match us, hl with | [_], _ => rfl
  obtain ⟨fd_law_take, FD_law_take⟩ := c.t.d.def_ 15 (d := dd_law_take) rfl
  have F_law_take : Fun K "_law_take" "_law_take" s_law_take (He.fAd K ("_law_take", none)) fd_law_take := fun_of FD_law_take
  have b_law_take := F_law_take.binds (ps := ["pool", "many"]) fun _ _ _ _ _ _ us hl => match us, hl with | [_, _], _ => rfl
  obtain ⟨fd_law_is_integer, FD_law_is_integer⟩ := c.t.d.def_ 16 (d := dd_law_is_integer) rfl
  have F_law_is_integer : Fun K "_law_is_integer" "_law_is_integer" s_law_is_integer (He.fAd K ("_law_is_integer", none)) fd_law_is_integer := fun_of FD_law_is_integer
  have b_law_is_integer := F_law_is_integer.binds (ps := ["actual"]) fun _ _ _ _ _ _ us hl => match us, hl with | [_], _ => rfl
  obtain ⟨fd_law_same, FD_law_same⟩ := c.t.d.def_ 17 (d := dd_law_same) rfl
  have F_law_same : Fun K "_law_same" "_law_same" s_law_same (He.fAd K ("_law_same", none)) fd_law_same := fun_of FD_law_same
  have b_law_same := F_law_same.binds (ps := ["actual", "due"]) fun _ _ _ _ _ _ us hl => match us, hl with | [_, _], _ => rfl
  obtain ⟨fd_law_pick, FD_law_pick⟩ := c.t.d.def_ 18 (d := dd_law_pick) rfl
  have F_law_pick : Fun K "_law_pick" "_law_pick" s_law_pick (He.fAd K ("_law_pick", none)) fd_law_pick := fun_of FD_law_pick
  have b_law_pick := F_law_pick.binds (ps := ["pool", "rows"]) fun _ _ _ _ _ _ us hl => match us, hl with | [_, _], _ => rfl
  obtain ⟨fd_law_parity, FD_law_parity⟩ := c.t.d.def_ 19 (d := dd_law_parity) rfl
  have F_law_parity : Fun K "_law_parity" "_law_parity" s_law_parity (He.fAd K ("_law_parity", none)) fd_law_parity := fun_of FD_law_parity
  have b_law_parity := F_law_parity.binds (ps := ["pool", "variables"]) fun _ _ _ _ _ _ us hl => match us, hl with | [_, _], _ => rfl
  obtain ⟨fd_law_sum, FD_law_sum⟩ := c.t.d.def_ 20 (d := dd_law_sum) rfl
  have F_law_sum : Fun K "_law_sum" "_law_sum" s_law_sum (He.fAd K ("_law_sum", none)) fd_law_sum := fun_of FD_law_sum
  have b_law_sum := F_law_sum.binds (ps := ["texts"]) fun _ _ _ _ _ _ us hl => match us, hl with | [_], _ => rfl
  obtain ⟨fd_law_derived, FD_law_derived⟩ := c.t.d.def_ 21 (d := dd_law_derived) rfl
  have F_law_derived : Fun K "_law_derived" "_law_derived" s_law_derived (He.fAd K ("_law_derived", none)) fd_law_derived := fun_of FD_law_derived
  have b_law_derived := F_law_derived.binds (ps := ["messages"]) fun _ _ _ _ _ _ us hl => match us, hl with | [_], _ => rfl
  obtain ⟨fd_law_shaped, FD_law_shaped⟩ := c.t.d.def_ 22 (d := dd_law_shaped) rfl
  have F_law_shaped : Fun K "_law_shaped" "_law_shaped" s_law_shaped (He.fAd K ("_law_shaped", none)) fd_law_shaped := fun_of FD_law_shaped
  have b_law_shaped := F_law_shaped.binds (ps := ["pool", "rows"]) fun _ _ _ _ _ _ us hl => match us, hl with | [_, _], _ => rfl
  obtain ⟨fd_law_second, FD_law_second⟩ := c.t.d.def_ 23 (d := dd_law_second) rfl
  have F_law_second : Fun K "_law_second" "_law_second" s_law_second (He.fAd K ("_law_second", none)) fd_law_second := fun_of FD_law_second
  have b_law_second := F_law_second.binds (ps := ["pool", "variables", "first"]) fun _ _ _ _ _ _ us hl => match us, hl with | [_, _, _], _ => rfl
  obtain ⟨fd_law, FD_law⟩ := c.t.d.def_ 24 (d := dd_law) rfl
  have F_law : Fun K "law" "law" s_law (He.fAd K ("law", none)) fd_law := fun_of FD_law
  have b_law := F_law.binds (ps := ["script"]) fun _ _ _ _ _ _ us hl => match us, hl with | [_], _ => rfl
  have B_law := FunD.bindsA (ps := ["script"]) FD_law fun _ _ _ _ _ _ us hl => match us, hl with | [_], _ => rfl
  obtain ⟨t_PARITY_LETTERS, m_PARITY_LETTERS⟩ := He.str_ok X G (c.t.d.fact 25 (f := .str "PARITY_LETTERS" "abcdefgh") rfl)
  exact ⟨⟨He.fAd K ("is_ascending", none), fd_is_ascending, He.fAd K ("is_parity", none), fd_is_parity, He.fAd K ("mask_of", none), fd_mask_of, He.fAd K ("remainder", none), fd_remainder, He.fAd K ("spanned", none), fd_spanned, (He.dflAt ("spanned", none) 0 K), He.fAd K ("basis_indices", none), fd_basis_indices, He.fAd K ("message_rank", none), fd_message_rank, He.fAd K ("is_derived", none), fd_is_derived, He.fAd K ("basis", none), fd_basis, He.fAd K ("redundant", none), fd_redundant, He.fAd K ("is_equivalent", none), fd_is_equivalent, He.fAd K ("parity_mask", none), fd_parity_mask, He.fAd K ("_message_masks", none), fd_message_masks, He.fAd K ("_is_derived_from_others", none), fd_is_derived_from_others, He.fAd K ("_law_pool", none), fd_law_pool, He.fAd K ("_law_take", none), fd_law_take, He.fAd K ("_law_is_integer", none), fd_law_is_integer, He.fAd K ("_law_same", none), fd_law_same, He.fAd K ("_law_pick", none), fd_law_pick, He.fAd K ("_law_parity", none), fd_law_parity, He.fAd K ("_law_sum", none), fd_law_sum, He.fAd K ("_law_derived", none), fd_law_derived, He.fAd K ("_law_shaped", none), fd_law_shaped, He.fAd K ("_law_second", none), fd_law_second, He.fAd K ("law", none), fd_law, t_PARITY_LETTERS⟩, ⟨F_is_ascending,
    b_is_ascending,
    He.glo_ok X G (c.t.d.fact 0 (f := .glo "is_ascending") rfl),
    F_is_parity,
    b_is_parity,
    He.glo_ok X G (c.t.d.fact 1 (f := .glo "is_parity") rfl),
    F_mask_of,
    b_mask_of,
    He.glo_ok X G (c.t.d.fact 2 (f := .glo "mask_of") rfl),
    F_remainder,
    b_remainder,
    He.glo_ok X G (c.t.d.fact 3 (f := .glo "remainder") rfl),
    FD_spanned,
    b_spanned,
    b1_spanned,
    tup0_ok (hx 0 rfl),
    (hx 1 rfl),
    He.glo_ok X G (c.t.d.fact 4 (f := .glo "spanned") rfl),
    F_basis_indices,
    b_basis_indices,
    He.glo_ok X G (c.t.d.fact 5 (f := .glo "basis_indices") rfl),
    F_message_rank,
    b_message_rank,
    He.glo_ok X G (c.t.d.fact 6 (f := .glo "message_rank") rfl),
    F_is_derived,
    b_is_derived,
    He.glo_ok X G (c.t.d.fact 7 (f := .glo "is_derived") rfl),
    F_basis,
    b_basis,
    He.glo_ok X G (c.t.d.fact 8 (f := .glo "basis") rfl),
    F_redundant,
    b_redundant,
    He.glo_ok X G (c.t.d.fact 9 (f := .glo "redundant") rfl),
    F_is_equivalent,
    b_is_equivalent,
    He.glo_ok X G (c.t.d.fact 10 (f := .glo "is_equivalent") rfl),
    F_parity_mask,
    b_parity_mask,
    He.glo_ok X G (c.t.d.fact 11 (f := .glo "parity_mask") rfl),
    F_message_masks,
    b_message_masks,
    He.glo_ok X G (c.t.d.fact 12 (f := .glo "_message_masks") rfl),
    F_is_derived_from_others,
    b_is_derived_from_others,
    He.glo_ok X G (c.t.d.fact 13 (f := .glo "_is_derived_from_others") rfl),
    F_law_pool,
    b_law_pool,
    He.glo_ok X G (c.t.d.fact 14 (f := .glo "_law_pool") rfl),
    F_law_take,
    b_law_take,
    He.glo_ok X G (c.t.d.fact 15 (f := .glo "_law_take") rfl),
    F_law_is_integer,
    b_law_is_integer,
    He.glo_ok X G (c.t.d.fact 16 (f := .glo "_law_is_integer") rfl),
    F_law_same,
    b_law_same,
    He.glo_ok X G (c.t.d.fact 17 (f := .glo "_law_same") rfl),
    F_law_pick,
    b_law_pick,
    He.glo_ok X G (c.t.d.fact 18 (f := .glo "_law_pick") rfl),
    F_law_parity,
    b_law_parity,
    He.glo_ok X G (c.t.d.fact 19 (f := .glo "_law_parity") rfl),
    F_law_sum,
    b_law_sum,
    He.glo_ok X G (c.t.d.fact 20 (f := .glo "_law_sum") rfl),
    F_law_derived,
    b_law_derived,
    He.glo_ok X G (c.t.d.fact 21 (f := .glo "_law_derived") rfl),
    F_law_shaped,
    b_law_shaped,
    He.glo_ok X G (c.t.d.fact 22 (f := .glo "_law_shaped") rfl),
    F_law_second,
    b_law_second,
    He.glo_ok X G (c.t.d.fact 23 (f := .glo "_law_second") rfl),
    F_law,
    b_law,
    fun s u => B_law s [u] rfl,
    He.glo_ok X G (c.t.d.fact 24 (f := .glo "law") rfl),
    m_PARITY_LETTERS,
    He.free_ok X G (c.t.d.fact 26 (f := .free "len") rfl),
    He.free_ok X G (c.t.d.fact 27 (f := .free "int") rfl),
    He.free_ok X G (c.t.d.fact 28 (f := .free "max") rfl),
    He.free_ok X G (c.t.d.fact 29 (f := .free "min") rfl),
    He.free_ok X G (c.t.d.fact 30 (f := .free "sum") rfl),
    He.free_ok X G (c.t.d.fact 31 (f := .free "sorted") rfl),
    He.free_ok X G (c.t.d.fact 32 (f := .free "range") rfl),
    He.free_ok X G (c.t.d.fact 33 (f := .free "tuple") rfl),
    He.free_ok X G (c.t.d.fact 34 (f := .free "list") rfl),
    He.free_ok X G (c.t.d.fact 35 (f := .free "isinstance") rfl),
    He.free_ok X G (c.t.d.fact 36 (f := .free "enumerate") rfl),
    He.free_ok X G (c.t.d.fact 37 (f := .free "all") rfl),
    He.free_ok X G (c.t.d.fact 38 (f := .free "bool") rfl),
    He.free_ok X G (c.t.d.fact 39 (f := .free "str") rfl)⟩, rfl⟩
theorem law_atX {l : PySem.W.OpenLaw} {w : World} {K : PySem.W.Frag} {h : Heap} {mg : Str → Option Value} {fa : Addr} (X : K.In h) (G : h.Ns mainGlobals mg) (hmg : mg "law" = some (.ref fa)) (c : He.SaysX faL fnL [] tfL exB w h K) :
    LamX.LawAtS l w K CX0 8 63 "script" mg fa h := by
  obtain ⟨a, T, ea⟩ := txt_of X G c
  have e : He.ga K "law" = fa := by
    have z := He.glo_ok X G (c.t.d.fact 24 (f := .glo "law") rfl)
    rw [hmg] at z
    cases z
    rfl
  refine law_at X T (ea.trans e) 
end AK
open PySem PySem.W PySem.Calls PyProof.Rows
set_option maxRecDepth 100000 in
set_option maxHeartbeats 0 in
theorem PySem.Challenge.cw_allknow_k07_whole_exchange_holds : PySem.Challenge.rw_allknow_k07_whole_exchange.Holds := by
  w_on; o_law
  refine HandSHeadRun.head_any (r := OpenLaw.row PySem.Challenge.rw_allknow_k07_whole_exchange) (q := view (OpenLaw.row PySem.Challenge.rw_allknow_k07_whole_exchange).prog [32]) (H := AK.hkX) (ob := AK.obX) (M := 2500) (loose := AK.looseL) (d := HandSHeadRun.topDef (OpenLaw.row PySem.Challenge.rw_allknow_k07_whole_exchange).prog 32) (kwd := []) AK.obX_eq
    (by kernel_rfl) (fun s => by kernel_rfl) AK.runX (by kernel_rfl) (by kernel_rfl) (by kernel_rfl) (by rfl) (by first | assumption | decide +kernel) (by decide +kernel) ⟨rfl, rfl, rfl, rfl, rfl, by decide +kernel⟩ ?hw ?hc
  case hw => w_witness2
  case hc =>
    refine LamX.walk_ofTsE (l := PySem.Challenge.rw_allknow_k07_whole_exchange) (n := 63) (k := 8) (x := "script") (CX := fun _ => L2.CX0) rfl (by decide) (by kernel_rfl) ⟨rfl, by decide, by decide⟩ ?F (fun _ _ _ _ _ z => z)
    intro w mg fa h Y G hmg0
    obtain ⟨K, KX, c⟩ := Y
    have hmg : mg ("law" : PySem.Str) = some (.ref fa) := by
      have e : (HandSHeadRun.topDef (OpenLaw.row PySem.Challenge.rw_allknow_k07_whole_exchange).prog 32).name = ("law" : PySem.Str) := by kernel_rfl
      rw [← e]
      exact hmg0
    exact ⟨K, KX, AK.law_atX KX G hmg c⟩
