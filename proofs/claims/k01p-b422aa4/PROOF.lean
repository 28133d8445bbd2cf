import PyProof.Rows.All
import Wide.All
import OpenK.AllK
import Wide.FinOn
import HandS.ForMost
import HandS.ForExc
import HandS.IsInst
import HandS.ExcIs
import HandS.ExcField
import HandS.ExcInit
import HandS.FStr
import HandS.StrMore
import HandS.Evl
import HandS.EndTab
import HandS.AnyAll
import HandS.JoinGen
import HandS.GenList
import HandS.RaiseMore
import PyProof.TupleOfGen
import KE.GoesMore
import PyProof.EnumMake
import HandS.CallSlots
import HandS.WordsExc
import KE.KExcIs
import HandS.Head0
import HandS.Head1
import HandS.Head2
import HandS.HeadEnd
import HandS.HeadHook1
import HandS.HeadHook2
import HandS.HeadHook3
import HandS.HeadHook4
import HandS.HeadWalk
import PySem.Challenge.RW_allknow_k01_networks
set_option Elab.async false
set_option linter.all false
set_option maxRecDepth 100000
namespace AK
open PySem PySem.Spec PyProof.Rows L2
/-! ### readings that simp can go through: a list, a tuple by what H itself holds -/
section
variable {X : Cx}
theorem OpR.imp {f : Value → Value → Sem Value} {r r' : R2} (h : OpR X f r) (i : ∀ x y H Q, r' x y H Q → r x y H Q) : OpR X f r' := fun pins s σ H x y v u Q I rx ry q => h pins s σ H x y v u Q I rx ry (i _ _ _ _ q)
theorem IxR.imp {r r' : R2} (h : IxR X r) (i : ∀ x y H Q, r' x y H Q → r x y H Q) : IxR X r' := fun ve se pins s σ H x y v u Q I rx ry q => h ve se pins s σ H x y v u Q I rx ry (i _ _ _ _ q)
theorem CallR.imp {f : Value} {r r' : List V → Hp → VK → Prop} (h : CallR X f r) (i : ∀ xs H Q, r' xs H Q → r xs H Q) : CallR X f r' := fun pins s σ H xs us Q I r q => h pins s σ H xs us Q I r (i _ _ _ q)
def hIx : R2 := fun x y H Q => ∃ p xs i v, x = .ref p ∧ y = .int i ∧ H p = some (.lst xs) ∧ atI xs i = some v ∧ Q v H
def hIxT : R2 := fun x y H Q => ∃ p xs i v, x = .ref p ∧ y = .int i ∧ H p = some (.tup xs) ∧ atI xs i = some v ∧ Q v H
theorem ixH : IxR X hIx := IxR.imp ix_list fun x y H Q ⟨p, xs, i, v, h1, h2, h3, h4, h5⟩ => ⟨p, xs, i, v, h1, h2, SqL.of h3, h4, h5⟩
theorem ixHT : IxR X hIxT := IxR.imp ix_tup fun x y H Q ⟨p, xs, i, v, h1, h2, h3, h4, h5⟩ => ⟨p, xs, i, v, h1, h2, SqT.of h3, h4, h5⟩
def hSet : V → V → V → Hp → (Hp → Prop) → Prop := fun o i v H Q => ∃ p xs k, o = .ref p ∧ i = .int k ∧ H p = some (.lst xs) ∧ 0 ≤ k ∧ k.toNat < xs.length ∧ Q (upd H p (.lst (xs.set k.toNat v)))
theorem setH : PSet X hSet := by
  intro pins s σ H o i v u1 u2 u3 Q I r1 r2 r3 ⟨p, xs, k, h1, h2, h3, h4, h5, h6⟩
  exact set_list pins s σ H o i v u1 u2 u3 Q I r1 r2 r3 ⟨p, xs, k, k.toNat, h1, h2, h3, by unfold ixN; rw [if_pos h4, if_pos (by omega)], h6⟩
def hInt : List V → Hp → VK → Prop := fun xs H Q => ∃ i, xs = [.int i] ∧ Q (.int i) H
theorem callInt : CallR X (.type "int") hInt := CallR.imp call_int1 fun _ _ _ h => .inl h
def hIntB : List V → Hp → VK → Prop := fun xs H Q => ∃ k, xs = [.bl k] ∧ Q (.int (if k then 1 else 0)) H
theorem callIntB : CallR X (.type "int") hIntB := CallR.imp call_int1 fun _ _ _ h => .inr h
def hLen : List V → Hp → VK → Prop := fun xs H Q => ∃ p ys, xs = [.ref p] ∧ H p = some (.lst ys) ∧ Q (.int ys.length) H
def hLenT : List V → Hp → VK → Prop := fun xs H Q => ∃ p ys, xs = [.ref p] ∧ H p = some (.tup ys) ∧ Q (.int ys.length) H
theorem callLen : CallR X (.builtin "len") hLen := CallR.imp call_len_seq fun _ _ _ ⟨p, ys, h1, h2, h3⟩ => ⟨p, ys, h1, .inl (SqL.of h2), h3⟩
theorem callLenT : CallR X (.builtin "len") hLenT := CallR.imp call_len_seq fun _ _ _ ⟨p, ys, h1, h2, h3⟩ => ⟨p, ys, h1, .inr (SqT.of h2), h3⟩
theorem powH : OpR X (binaryOp .Pow) (rI (fun i j => 0 ≤ j ∧ j ≤ 1000000 ∧ -18446744073709551616 < i ∧ i < 18446744073709551616) fun i j => .int (i ^ j.toNat)) := OpR.imp op_pow fun x y H Q ⟨i, j, h1, h2, h3, h4⟩ => ⟨i, j, h1, h2, ⟨h3.1, h3.2.1, by have := h3.2.2; show i.natAbs < 18446744073709551616; omega⟩, h4⟩
end
/-! ### small facts -/
theorem atI_0 {α : Type} {a : α} {l : List α} : atI (a :: l) 0 = some a := atI_nat (j := 0) rfl
theorem atI_1 {α : Type} {a b : α} {l : List α} : atI (a :: b :: l) 1 = some b := atI_nat (j := 1) rfl
theorem atI_2 {α : Type} {a b c : α} {l : List α} : atI (a :: b :: c :: l) 2 = some c := atI_nat (j := 2) rfl
theorem atI_3 {α : Type} {a b c d : α} {l : List α} : atI (a :: b :: c :: d :: l) 3 = some d := atI_nat (j := 3) rfl
theorem set_1 {α : Type} {a b v : α} {l : List α} : (a :: b :: l).set 1 v = a :: v :: l := rfl
theorem set_2 {α : Type} {a b c v : α} {l : List α} : (a :: b :: c :: l).set 2 v = a :: b :: v :: l := rfl
theorem set_3 {α : Type} {a b c d v : α} {l : List α} : (a :: b :: c :: d :: l).set 3 v = a :: b :: c :: v :: l := rfl
theorem take_s {α : Type} {l : List α} {i : Nat} {x : α} (h : l[i]? = some x) : l.take (i + 1) = l.take i ++ [x] := by
  rw [List.take_add_one, h]
  rfl
theorem map_at {α β : Type} {f : α → β} {l : List α} {i : Nat} {y : β} (h : (l.map f)[i]? = some y) : ∃ x, l[i]? = some x ∧ y = f x := by
  rw [List.getElem?_map] at h
  cases e : l[i]? with
  | none => rw [e] at h; cases h
  | some x => rw [e] at h; exact ⟨x, rfl, (Option.some.inj h).symm⟩
theorem same_new {H : Hp} {p : Addr} {o : HO} (h : H p = none) : Same H (upd H p o) := fun b x e => by
  rw [upd_ne (ne_of_none e h)]
  exact e
theorem same_out {G H : Hp} {p : Addr} {o : HO} (h : Same G H) (n : G p = none) : Same G (upd H p o) := fun b x e => by
  rw [upd_ne (ne_of_none e n)]
  exact h b x e
/-- all but what stands at p is as it was -/
def But (p : Addr) (H H' : Hp) : Prop := ∀ b, b ≠ p → H' b = H b
theorem But.refl (p : Addr) (H : Hp) : But p H H := fun _ _ => rfl
theorem But.trans {p : Addr} {H H1 H2 : Hp} (a : But p H H1) (b : But p H1 H2) : But p H H2 := fun c h => (b c h).trans (a c h)
theorem But.upd {p : Addr} {H : Hp} {o : HO} : But p H (upd H p o) := fun _ h => upd_ne h
theorem But.same {p : Addr} {G H H' : Hp} (b : But p H H') (h : Same G H) (n : G p = none) : Same G H' := fun c x e => by
  rw [b c (ne_of_none e n)]
  exact h c x e
end AK
set_option Elab.async false
set_option linter.all false
set_option maxRecDepth 100000
set_option maxHeartbeats 4000000
namespace AK
open PySem PySem.Spec PyProof.Rows L2 GenW
/-! ### tuple(tuple(x) for x in rows): the generator handed to tuple, turn by turn -/
/-- what is fixed while the generator lives: base: what never changes; I its iterator, C its frame, S the list that is filled, a itself -/
structure TgC where
  P : Program
  w : World
  fs : List Addr
  base : Heap
  H0 : Hp
  sc : Shared
  I : Addr
  C : Addr
  S : Addr
  a : Addr
  g : Nat
  hI : base.objs.size ≤ I
  hC : sc.heap.objs.size ≤ C
  hS : sc.heap.objs.size ≤ S
  ha : sc.heap.objs.size ≤ a
  hb : base.objs.size ≤ sc.heap.objs.size
  hIs : I < sc.heap.objs.size
  hCS : C ≠ S
  hCa : C ≠ a
  hSa : S ≠ a
  hst : cStatics < base.objs.size
/-- .. as it stands behind i turns: bs are the tuples handed out -/
structure TgM (T : TgC) (bs : List Addr) (H : Hp) (s : Shared) : Prop where
  os : s.os = T.sc.os
  bare : AllBare s.gens
  lim : s.heap.NoLimit
  gen : s.heap.IsGen T.a T.g
  un : Un T.fs [T.I] T.H0 H T.sc.heap s.heap
  ok : HOk T.P T.w H s.heap
  fr : ∃ m, s.heap.Ns T.C m
  ls : ∃ (acc : Array Value) (c : Nat), s.heap.get? T.S = some (lstObj acc c) ∧ Vals (bs.map V.ref) acc.toList
  nI : H T.I = none
  nC : H T.C = none
  nS : H T.S = none
  na : H T.a = none
  le : Same T.H0 H
  bk : ∀ b o, T.base.get? b = some o → s.heap.get? b = some o
theorem hok_of {P : Program} {w : World} {H : Hp} {h h' : Heap} (x : HOk P w H h) (k : ∀ b u, H b ≠ none → h.get? b = some u → h'.get? b = some u) : HOk P w H h' := by
  intro b o e
  refine (x b o e).stay (fun c u hc q => k c u ?_ q) (fun _ q => q) (fun _ _ q => q)
  rcases hc with z | z
  · rw [z, e]; exact fun z => nomatch z
  · rw [z]; exact fun z => nomatch z
theorem lim_of {h h' : Heap} (l : h.NoLimit) (k : ∀ o, h.get? cStatics = some o → h'.get? cStatics = some o) : h'.NoLimit := by
  obtain ⟨mc, n1, n2⟩ := l
  exact ⟨mc, n1.at' k, n2⟩
/-- all but the iterator and the frame is kept (new things may have been laid) -/
theorem TgM.move {T : TgC} {bs : List Addr} {H : Hp} {s : Shared} (M : TgM T bs H s) {h' : Heap} {tk : Nat} (k : ∀ b o, b ≠ T.I → b ≠ T.C → s.heap.get? b = some o → h'.get? b = some o) (f : ∃ m, h'.Ns T.C m) : TgM T bs H { s with heap := h', toks := tk } := by
  have neO : ∀ {b o}, T.sc.heap.get? b = some o → b ≠ T.C := fun {b o} e => Nat.ne_of_lt (Nat.lt_of_lt_of_le (Heap.lt_size e) T.hC)
  have hsI : T.S ≠ T.I := fun z => by have h1 := T.hS; have h2 := T.hIs; rw [z] at h1; exact absurd (Nat.lt_of_lt_of_le h2 h1) (Nat.lt_irrefl _)
  have haI : T.a ≠ T.I := fun z => by have h1 := T.ha; have h2 := T.hIs; rw [z] at h1; exact absurd (Nat.lt_of_lt_of_le h2 h1) (Nat.lt_irrefl _)
  have big : ∀ {b o}, T.base.get? b = some o → b ≠ T.I ∧ b ≠ T.C := fun {b o} e => by
    have h1 := Heap.lt_size e
    exact ⟨Nat.ne_of_lt (Nat.lt_of_lt_of_le h1 T.hI), Nat.ne_of_lt (Nat.lt_of_lt_of_le h1 (Nat.le_trans T.hb T.hC))⟩
  obtain ⟨acc, c, e1, e2⟩ := M.ls
  obtain ⟨og, g1, g2, g3, g4⟩ := M.gen
  have u := M.un
  refine ⟨M.os, M.bare, ?_, ⟨og, g1, g2, k _ _ haI (Ne.symm T.hCa) g3, g4⟩, ⟨?_, ?_, u.free, ?_, u.tups, u.frzs, u.tbls⟩, ?_, f, ⟨acc, c, k _ _ hsI (Ne.symm T.hCS) e1, e2⟩, M.nI, M.nC, M.nS, M.na, M.le, fun b o e => k b o (big e).1 (big e).2 (M.bk b o e)⟩
  · refine lim_of M.lim fun o e => k _ o ?_ ?_ e
    · exact Nat.ne_of_lt (Nat.lt_of_lt_of_le T.hst T.hI)
    · exact Nat.ne_of_lt (Nat.lt_of_lt_of_le T.hst (Nat.le_trans T.hb T.hC))
  · intro b o q n x1 x2
    exact k b o (fun z => x2 (by rw [z]; exact List.mem_singleton.mpr rfl)) (neO q) (u.keep b o q n x1 x2)
  · intro b o q n x1 x2
    obtain ⟨sl, e⟩ := u.slot b o q n x1 x2
    exact ⟨sl, k b _ (fun z => x2 (by rw [z]; exact List.mem_singleton.mpr rfl)) (neO q) e⟩
  · intro b o q x2
    obtain ⟨o', e⟩ := u.there b o q x2
    exact ⟨o', k b _ (fun z => x2 (by rw [z]; exact List.mem_singleton.mpr rfl)) (neO q) e⟩
  · refine hok_of M.ok fun b v hb e => k b v (fun z => hb (by rw [z]; exact M.nI)) (fun z => hb (by rw [z]; exact M.nC)) e
/-- a new tuple is laid -/
theorem TgM.laid {T : TgC} {bs : List Addr} {H : Hp} {s : Shared} (M : TgM T bs H s) {row : List V} {its : List Value} (r : Vals row its) (hz : row.length ≤ sizeLine) :
    H s.heap.objs.size = none ∧ TgM T bs (upd H s.heap.objs.size (.tup row)) { s with heap := s.heap.push { cls := .type "tuple", data := .seq its.toArray } } := by
  have hn : H s.heap.objs.size = none := M.ok.fresh (Nat.le_refl _)
  have kp : ∀ b o, s.heap.get? b = some o → (s.heap.push { cls := .type "tuple", data := .seq its.toArray }).get? b = some o := fun b o e => Heap.get?_push_of_some _ e
  have M1 := M.move (tk := s.toks) (h' := s.heap.push { cls := .type "tuple", data := .seq its.toArray }) (fun b o _ _ e => kp b o e) (by obtain ⟨m, hm⟩ := M.fr; exact ⟨m, hm.keeps kp⟩)
  obtain ⟨acc, c, e1, e2⟩ := M.ls
  obtain ⟨m, om, es, ep, em, _⟩ := M.fr
  obtain ⟨og, _, _, g3, _⟩ := M.gen
  have sc_lt : T.sc.heap.objs.size ≤ s.heap.objs.size := Nat.le_of_lt (Nat.lt_of_le_of_lt T.hS (Heap.lt_size e1))
  have ne : ∀ {b o}, s.heap.get? b = some o → b ≠ s.heap.objs.size := fun {b o} e => Nat.ne_of_lt (Heap.lt_size e)
  have u := M1.un
  refine ⟨hn, M1.os, M1.bare, M1.lim, M1.gen, ⟨u.keep, u.slot, ?_, u.there, ?_, ?_, ?_⟩, M.ok.laid kp (Nat.le_refl _) ⟨hz, its, r, IsTup.new _ _⟩, M1.fr, M1.ls, ?_, ?_, ?_, ?_, ?_, M1.bk⟩
  · intro b o q n x2
    rw [upd_ne (Nat.ne_of_lt (Nat.lt_of_lt_of_le (Heap.lt_size q) sc_lt))]
    exact u.free b o q n x2
  · intro b xs q
    have := u.tups b xs q
    rw [upd_ne (ne_of_none this hn)]; exact this
  · intro b o xs q
    have := u.frzs b o xs q
    rw [upd_ne (ne_of_none this hn)]; exact this
  · intro b ps q
    obtain ⟨more, z⟩ := u.tbls b ps q
    exact ⟨more, by rw [upd_ne (ne_of_none z hn)]; exact z⟩
  · rw [upd_ne (Nat.ne_of_lt (Nat.lt_of_lt_of_le T.hIs sc_lt))]; exact M.nI
  · rw [upd_ne (ne em)]; exact M.nC
  · rw [upd_ne (ne e1)]; exact M.nS
  · rw [upd_ne (ne g3)]; exact M.na
  · intro b o e
    rw [upd_ne (ne_of_none (M.le b o e) hn)]
    exact M.le b o e
/-- the list took what was handed out -/
theorem TgM.woken {T : TgC} {bs : List Addr} {H : Hp} {s s' : Shared} {q : Addr} (M : TgM T bs H s) (z : Slept T.S (.ref q) s s') : TgM T (bs ++ [q]) H s' := by
  obtain ⟨z1, z2, z3, z4⟩ := z
  obtain ⟨acc, c, e1, e2⟩ := M.ls
  obtain ⟨c', e3⟩ := z4 acc c e1
  obtain ⟨og, g1, g2, g3, g4⟩ := M.gen
  have u := M.un
  have neS : ∀ {b o}, T.sc.heap.get? b = some o → b ≠ T.S := fun {b o} e => Nat.ne_of_lt (Nat.lt_of_lt_of_le (Heap.lt_size e) T.hS)
  refine ⟨z1.trans M.os, z2, ?_, ⟨og, g1, g2, z3 _ _ (Ne.symm T.hSa) g3, g4⟩, ⟨?_, ?_, u.free, ?_, u.tups, u.frzs, u.tbls⟩, ?_, ?_, ⟨acc.push (.ref q), c', e3, ?_⟩, M.nI, M.nC, M.nS, M.na, M.le, ?_⟩
  · exact lim_of M.lim fun o e => z3 _ o (Nat.ne_of_lt (Nat.lt_of_lt_of_le T.hst (Nat.le_trans T.hb T.hS))) e
  · exact fun b o q n x1 x2 => z3 b o (neS q) (u.keep b o q n x1 x2)
  · intro b o q n x1 x2
    obtain ⟨sl, e⟩ := u.slot b o q n x1 x2
    exact ⟨sl, z3 b _ (neS q) e⟩
  · intro b o q x2
    obtain ⟨o', e⟩ := u.there b o q x2
    exact ⟨o', z3 b _ (neS q) e⟩
  · exact hok_of M.ok fun b v hb e => z3 b v (fun y => hb (by rw [y]; exact M.nS)) e
  · obtain ⟨m, hm⟩ := M.fr
    exact ⟨m, hm.at' fun o e => z3 _ o T.hCS e⟩
  · rw [Array.toList_push, List.map_append]
    exact e2.append (.cons rfl .nil)
  · intro b o e
    exact z3 b o (Nat.ne_of_lt (Nat.lt_of_lt_of_le (Heap.lt_size e) (Nat.le_trans T.hb T.hS))) (M.bk b o e)
end AK
set_option Elab.async false
set_option linter.all false
set_option maxRecDepth 100000
set_option maxHeartbeats 4000000
namespace AK
open PySem PySem.Spec PyProof.Rows L2 GenW
/-- what the element asks of the base: where the builtins stand -/
structure TgB (T : TgC) (mg : Str → Option Value) : Prop where
  glob : T.base.Ns mainGlobals mg
  blt : ∃ mb, T.base.Ns builtinsNs mb ∧ ∀ x : Str, x ≠ "__name__" → mb x = bootBuiltins x
  tup : mg "tuple" = none
theorem tg_elt {T : TgC} {mg : Str → Option Value} (B : TgB T mg) {bs : List Addr} {H : Hp} {s : Shared} (M : TgM T bs H s) {A : Around} {E : Value → Shared → Prop} {cenv : Env} {x : Str} {p1 p2 p3 : Pos} {m : Str → Option Value} {r : Addr} {row : List V}
    (hk : cenv.scope.kind = .function) (hgl : cenv.globals = mainGlobals) (hbl : cenv.builtins = builtinsNs) (hL : cenv.locals = T.C) (hx : cenv.kindOf x = some .local) (ht : cenv.kindOf "tuple" = some .globalImplicit) (hd : (x == ("__debug__" : Str)) = false)
    (hn : s.heap.Ns cenv.locals m) (hm : m x = some (.ref r)) (hr : H r = some (.lst row) ∨ H r = some (.tup row)) :
    wpAny (model T.P T.w) A (eval (.Call (.Name "tuple" p1) [.Name x p2] [] p3) cenv) (fun y s' => ∃ q H', y = .ref q ∧ TgM T bs H' s' ∧ H' q = some (.tup row) ∧ Same H H' ∧ (∀ b o, s.heap.get? b = some o → s'.heap.get? b = some o) ∧ ∃ h' tk, s' = { s with heap := h', toks := tk }) E s := by
  obtain ⟨mb, b1, b2⟩ := B.blt
  refine wpAny_Call_Name_kw ?_
  refine Calls.Name_function_global hk ht (Calls.loadGlobal_builtin (v := .type "tuple") (by rw [hgl]; exact B.glob.keeps M.bk) B.tup (by rw [hbl]; exact b1.keeps M.bk) ((b2 "tuple" (by decide)).trans (by decide +kernel)) ?_) (by decide)
  refine PyProof.Rows.callWith_type1 ?_ (by rfl) (by rfl)
  show wpAny _ _ (spliced ((false, eval (.Name x p2) cenv) :: backTo p3 (starEach [] cenv))) _ _ s
  refine Calls.spliced_cons (wpAny_Name (wpAny_loadName_local hk hx hn hm ?_) hd)
  refine Calls.spliced_nil ?_
  rcases hr with hr | hr
  · obtain ⟨hz, its, n, rv, e⟩ := M.ok r _ hr
    have il : s.heap.IsList r its.toArray := ⟨_, e, rfl, n, rfl⟩
    refine call_tuple_list il (fun h' kp => ?_) (by rw [List.size_toArray, ← rv.length]; exact hz)
    have M1 : TgM T bs H { s with heap := h' } := M.move (tk := s.toks) (fun b o _ _ q => kp b o q) (by obtain ⟨m0, hm0⟩ := M.fr; exact ⟨m0, hm0.keeps kp⟩)
    obtain ⟨nn, M2⟩ := M1.laid rv hz
    exact ⟨_, _, rfl, M2, upd_same, same_new nn, fun b o q => Heap.get?_push_of_some _ (kp b o q), _, s.toks, rfl⟩
  · obtain ⟨hz, its, rv, tp⟩ := M.ok r _ hr
    exact call_tuple_same tp ⟨r, H, rfl, M, hr, fun _ _ q => q, fun _ _ q => q, s.heap, s.toks, rfl⟩
/-- behind the last turn -/
def TgQ (T : TgC) (rows : List (List V)) (ys : List V) (H' : Hp) : Prop := ∃ bs : List Addr, ys = bs.map V.ref ∧ bs.length = rows.length ∧ (∀ (j : Nat) (b : Addr) (row : List V), bs[j]? = some b → rows[j]? = some row → H' b = some (.tup row)) ∧ Same T.H0 H' ∧ H' T.a = none
def tgR (T : TgC) (rows : List (List V)) : GenEnd := fun n s₀ r s1 => r = .ok .next ∧ ∃ bs H', TgM T bs H' s1 ∧ TgQ T rows (bs.map V.ref) H'
def tgY (T : TgC) : Protocol := fun n s₀ v s1 kap => (∃ bs H', n + 1 + bs.length = sizeLine ∧ TgM T bs H' s1) ∧ ∀ s', Slept T.S v s1 s' → kap (.send .none) s'
theorem tg_loop {T : TgC} {mg : Str → Option Value} (B : TgB T mg) {A : Around} {cenv : Env} {x : Str} {px p1 p2 p3 pos : Pos} {iter : Expr} {scope : Scope} {l : Addr} {as : List Addr} {rows : List (List V)} {St₀ : Nat → Heap → Prop} {its : Array Value}
    (hh : A.handled = none) (W : ∀ A' : Around, A'.handled = none → Walks T.P T.w A' T.I [T.I, l] [T.I] its.size (fun i v => its[i]? = some v) St₀)
    (hsz : its.size = rows.length) (hle : rows.length ≤ sizeLine) (hat : ∀ (i : Nat) (v : Value), its[i]? = some v → ∃ (r : Addr) (row : List V), v = .ref r ∧ rows[i]? = some row ∧ (T.H0 r = some (.lst row) ∨ T.H0 r = some (.tup row))) (hl : ∃ o, T.H0 l = some o)
    (hk : cenv.scope.kind = .function) (hgl : cenv.globals = mainGlobals) (hbl : cenv.builtins = builtinsNs) (hL : cenv.locals = T.C) (hx : cenv.kindOf x = some .local) (ht : cenv.kindOf "tuple" = some .globalImplicit) (hd : (x == ("__debug__" : Str)) = false) (hco : cenv.scope.isCoroutine = false) :
    ∀ (k i : Nat) (s₀ s : Shared) (bs : List Addr) (H' : Hp), its.size - i = k → i ≤ its.size → bs.length = i → TgM T bs H' s → St₀ i s.heap → (∀ (j : Nat) (b : Addr) (row : List V), bs[j]? = some b → rows[j]? = some row → H' b = some (.tup row)) →
      Seg (model T.P T.w) A (tgR T rows) (tgY T) (sizeLine - i) s₀ (.compLoop (.GeneratorExp (.Call (.Name "tuple" p1) [.Name x p2] [] p3) [⟨.Name x px, iter, [], 0⟩] scope pos) 0 (.ref T.I) .none cenv)
        ((model T.P T.w).den (.compLoop (.GeneratorExp (.Call (.Name "tuple" p1) [.Name x p2] [] p3) [⟨.Name x px, iter, [], 0⟩] scope pos) 0 (.ref T.I) .none cenv)) [] s := by
  have hh' : (A.over (.compLoop (.GeneratorExp (.Call (.Name "tuple" p1) [.Name x p2] [] p3) [⟨.Name x px, iter, [], 0⟩] scope pos) 0 (.ref T.I) .none cenv) []).handled = none := hh
  have hp : (cenv.scope.kind == .class || (cenv.scope.kind == .module && cenv.locals != cenv.globals)) = false := by rw [hk]; rfl
  have hCI : T.C ≠ T.I := fun z => by have h1 := T.hC; have h2 := T.hIs; rw [z] at h1; exact absurd (Nat.lt_of_lt_of_le h2 h1) (Nat.lt_irrefl _)
  have hlC : ∀ {bs H s}, TgM T bs H s → l ≠ T.C := fun {bs H s} M z => by
    obtain ⟨o, e⟩ := hl
    have := M.le l o e
    rw [z, M.nC] at this
    cases this
  have inI : ∀ {b}, b ≠ T.I → b ∉ [T.I] := fun {b} h z => h (List.mem_singleton.mp z)
  intro k
  induction k with
  | zero =>
    intro i s₀ s bs H' hki hi hlen M hst hrow
    obtain rfl : i = its.size := by omega
    show Seg _ A _ _ _ s₀ _ ((compTurn (.GeneratorExp (.Call (.Name "tuple" p1) [.Name x p2] [] p3) [⟨.Name x px, iter, [], 0⟩] scope pos) 0 (.ref T.I) .none cenv).onRaise (leaving cenv)) [] s
    rw [compTurn_gen, Sem.onRaise_eq_wrap]
    refine seg_bind_wrap (wpAny_standAt (seg_bind_wrap ((W _ hh').done s _ _ hst fun h1 tk1 kp => ?_)))
    have M1 := M.move (tk := tk1) (fun b o e1 _ e => kp b o (inI e1) e) (by obtain ⟨m, hm⟩ := M.fr; exact ⟨m, hm.at' fun o e => kp _ o (inI hCI) e⟩)
    exact seg_end (.ok .next) ⟨rfl, bs, H', M1, bs, rfl, hlen.trans hsz, hrow, M.le, M.na⟩
  | succ k ih =>
    intro i s₀ s bs H' hki hi hlen M hst hrow
    have hlt : i < its.size := by omega
    show Seg _ A _ _ _ s₀ _ ((compTurn (.GeneratorExp (.Call (.Name "tuple" p1) [.Name x p2] [] p3) [⟨.Name x px, iter, [], 0⟩] scope pos) 0 (.ref T.I) .none cenv).onRaise (leaving cenv)) [] s
    rw [compTurn_gen, Sem.onRaise_eq_wrap]
    refine seg_bind_wrap (wpAny_standAt (seg_bind_wrap ((W _ hh').item i s _ _ hlt hst fun v h1 tk1 hv st1 kp => ?_)))
    obtain ⟨r, row, rfl, hrw, hH0⟩ := hat i v hv
    obtain ⟨m, hm⟩ := M.fr
    have n1 : h1.Ns T.C m := hm.at' fun o e => kp _ o (inI hCI) e
    have M1 := M.move (tk := tk1) (fun b o e1 _ e => kp b o (inI e1) e) ⟨m, n1⟩
    refine seg_bind_wrap (wpAny_of_eq (rfl : letOwnedTupleGo (.Name x px) (.ref T.I) (.ref r) = pure ()) ?_)
    refine seg_bind_wrap (wpAny_assign_Name (wpAny_storeName_local hx (by rw [hL]; exact n1) (fun h2 n2 sb => ?_) hp))
    rw [hL] at n2 sb
    have M2 := M1.move (tk := tk1 + 1) (h' := h2) (fun b o _ e2 e => sb.extBut b o e2 e) ⟨_, n2⟩
    have st2 : St₀ (i + 1) h2 := (W A hh).frame _ _ _ st1 fun b hb o e => sb.extBut b o (by
      rcases List.mem_cons.mp hb with z | z
      · rw [z]; exact Ne.symm hCI
      · rw [List.mem_singleton.mp z]; exact hlC M) e
    simp only [List.forIn_nil]
    refine seg_bind_wrap (wpAny_pure ?_)
    simp only [if_true]
    have hy : ∀ v, yieldOut cenv v = yieldValue v := fun v => by simp only [yieldOut, hco, Bool.false_eq_true, if_false]
    simp only [hy]
    rw [Sem.bind_eq_wrap', Sem.bind_eq_wrap', Sem.wrap_wrap, Sem.wrap_wrap]
    refine seg_wrap (wpAny_mono (tg_elt B M2 (x := x) (r := r) (row := row) hk hgl hbl hL hx ht hd (by rw [hL]; exact n2) (by simp) (hH0.imp (M.le r _) (M.le r _))) (fun y s3 h3 => ?_) fun _ _ z => z)
    obtain ⟨q, H3, rfl, M3, hq, le3, kp3, h4, tk4, rfl⟩ := h3
    have hne : sizeLine - i = (sizeLine - (i + 1)) + 1 := by omega
    rw [hne]
    refine seg_at (seg_yield rfl rfl rfl ⟨⟨bs, H3, by omega, M3⟩, fun s5 sl => ?_⟩)
    have M5 := M3.woken sl
    refine seg_again rfl (ih (i + 1) s5 s5 (bs ++ [q]) H3 (by omega) hlt (by rw [List.length_append, hlen]; rfl) M5 ?_ ?_)
    · obtain ⟨_, _, z3, _⟩ := sl
      refine (W A hh).frame _ _ _ st2 fun b hb o e => z3 b o ?_ (kp3 b o e)
      rcases List.mem_cons.mp hb with z | z
      · rw [z]; exact fun y => by have h1 := T.hS; have h2 := T.hIs; rw [← y] at h1; exact absurd (Nat.lt_of_lt_of_le h2 h1) (Nat.lt_irrefl _)
      · rw [List.mem_singleton.mp z]
        obtain ⟨o, e⟩ := hl
        exact fun y => by have := M.le l o e; rw [y, M.nS] at this; cases this
    · intro j b row' hj hr'
      by_cases hji : j < bs.length
      · rw [List.getElem?_append_left hji] at hj
        exact le3 _ _ (hrow j b row' hj hr')
      · rw [List.getElem?_append_right (by omega)] at hj
        have hj0 : j - bs.length = 0 := by
          cases e : j - bs.length with
          | zero => rfl
          | succ n => rw [e] at hj; cases hj
        rw [hj0] at hj
        obtain rfl : q = b := Option.some.inj hj
        obtain rfl : j = i := by omega
        rw [hrw] at hr'
        obtain rfl := Option.some.inj hr'
        exact hq
end AK
set_option Elab.async false
set_option linter.all false
set_option maxRecDepth 100000
set_option maxHeartbeats 4000000
namespace AK
open PySem PySem.Spec PyProof.Rows L2 GenW
theorem TgM.gens {T : TgC} {bs : List Addr} {H : Hp} {s : Shared} (M : TgM T bs H s) {G : Array GenState} (hG : AllBare G) : TgM T bs H { s with gens := G } :=
  ⟨M.os, hG, M.lim, M.gen, M.un, M.ok, M.fr, M.ls, M.nI, M.nC, M.nS, M.na, M.le, M.bk⟩
theorem TgM.kept {T : TgC} {bs : List Addr} {H : Hp} {s : Shared} (M : TgM T bs H s) {h' : Heap} {tk : Nat} (k : ∀ b o, s.heap.get? b = some o → h'.get? b = some o) : TgM T bs H { s with heap := h', toks := tk } :=
  M.move (fun b o _ _ e => k b o e) (by obtain ⟨m, hm⟩ := M.fr; exact ⟨m, hm.keeps k⟩)
theorem TgM.len {T : TgC} {bs : List Addr} {H : Hp} {s : Shared} {acc : Array Value} (r : Vals (bs.map V.ref) acc.toList) : acc.size = bs.length := by
  have h := r.length
  rw [List.length_map] at h
  rw [← Array.length_toList]
  exact h.symm
theorem tg_drain {T : TgC} {rows : List (List V)} {A : Around} {Rr : Result → Shared → Prop} {res : Value} (hh : A.handled = none) (hd : A.depth < recursionLimit)
    (hend : ∀ s' bs H', TgM T bs H' s' → TgQ T rows (bs.map V.ref) H' → Rr (.ok (.ret res)) s') :
    ∀ (m : Nat) (s : Shared), s.heap.IsGen T.a T.g → s.heap.NoLimit → (∃ gs, s.gens[T.g]? = some gs ∧ gs.Goes (model T.P T.w) A.in1.in1 (tgR T rows) (tgY T) m (.send .none) (s.setGen T.g .running)) →
      codeAny (model T.P T.w) A (.builtin "list.extend.loop" ⟨[.ref T.S, .ref T.a, res], []⟩) Rr s := by
  intro m
  induction m with
  | zero =>
    intro s hg hl ⟨gs, hgs, hgo⟩
    refine codeAny_builtin F.entry_extend_loop ?_
    rw [Around.under_plainId F.plain_extend_loop _]
    show wpAny _ A.in1 (pyNext (.ref T.a) >>= _) _ _ s
    refine wpAny_bind (wpAny_pyNext_genexpQ (A := A.in1) (P := fun _ _ s1 => ∃ bs H', TgM T bs H' s1 ∧ TgQ T rows (bs.map V.ref) H') hh hl hd hg hgs hgo (fun v s1 gs' hb hv => ?_) (fun s1 hp h' hk => ?_))
    · obtain ⟨⟨bs, H', _, M⟩, go⟩ := hv
      obtain ⟨acc, c, e1, _⟩ := M.ls
      exact (go _ (Slept.push e1 M.bare)).elim
    · obtain ⟨bs, H', M, q⟩ := hp
      exact wpAny_pure (hend _ bs H' ((M.kept hk (tk := s1.toks)).gens (allBare_setGen M.bare rfl)) q)
  | succ m ih =>
    intro s hg hl ⟨gs, hgs, hgo⟩
    have hgl : T.g < s.gens.size := (Array.getElem?_eq_some_iff.mp hgs).1
    refine codeAny_builtin F.entry_extend_loop ?_
    rw [Around.under_plainId F.plain_extend_loop _]
    show wpAny _ A.in1 (pyNext (.ref T.a) >>= _) _ _ s
    refine wpAny_bind (wpAny_gsz (n := T.g + 1) hgl (wpAny_pyNext_genexpQ (A := A.in1) (P := fun _ _ s1 => ∃ bs H', TgM T bs H' s1 ∧ TgQ T rows (bs.map V.ref) H') hh hl hd hg hgs hgo (fun v s1 gs' hb hv => ?_) (fun s1 hp h' hk => ?_)))
    · intro hsz
      obtain ⟨⟨bs, H', hn, M⟩, go⟩ := hv
      obtain ⟨acc, c, e1, e2⟩ := M.ls
      have hacc : acc.size = bs.length := TgM.len (T := T) (H := H') (s := s1) e2
      have hs1 : T.g < s1.gens.size := by
        have q : (s1.setGen T.g gs').gens.size = s1.gens.size := setGen_size _ _ _
        have hsz' : T.g + 1 ≤ (s1.setGen T.g gs').gens.size := hsz
        omega
      show wpAny _ A.in1 (updateSeq T.S (·.push v) >>= _) _ _ _
      refine wpAny_bind (wpAny_updateSeq (s := s1.setGen T.g gs') e1 rfl (wpAny_pure ⟨plainId_quiet F.plain_extend_loop _, ?_⟩) (by omega) (by show (acc.push v).size ≤ sizeLine + 1; rw [Array.size_push]; omega))
      have kp : ∀ b o, b ≠ T.S → s1.heap.get? b = some o → (s1.heap.update T.S (Obj.mapSeq (·.push v))).get? b = some o := fun b o hb e => (Heap.get?_update_other _ _ (Ne.symm hb)).trans e
      refine ih { s1.setGen T.g gs' with heap := s1.heap.update T.S (Obj.mapSeq (·.push v)) } ?_ ?_ ⟨gs', setGen_at hs1, ?_⟩
      · obtain ⟨og, g1, g2, g3, g4⟩ := M.gen
        exact ⟨og, g1, g2, kp _ _ (Ne.symm T.hSa) g3, g4⟩
      · exact lim_of M.lim fun o e => kp _ o (Nat.ne_of_lt (Nat.lt_of_lt_of_le T.hst (Nat.le_trans T.hb T.hS))) e
      · exact go _ (Slept.push e1 (allBare_setGen (s := s1.setGen T.g gs') (allBare_setGen M.bare hb) rfl))
    · intro hsz
      obtain ⟨bs, H', M, q⟩ := hp
      exact wpAny_pure (hend _ bs H' ((M.kept hk (tk := s1.toks)).gens (allBare_setGen M.bare rfl)) q)
end AK
set_option Elab.async false
set_option linter.all false
set_option maxRecDepth 100000
set_option maxHeartbeats 4000000
namespace AK
open PySem PySem.Spec PyProof.Rows L2 GenW
/-- the generator at a, not begun; W: what it is woken to, whatever list S is to be filled -/
def TgWake (P : Program) (w : World) (A : Around) (a : Addr) (g : Nat) (rows : List (List V)) (s : Shared) (Z : Array Value → Nat → Shared → Prop) : Prop :=
  ∀ (S : Addr) (s2 : Shared), s.heap.objs.size ≤ S → (∀ b o, s.heap.get? b = some o → s2.heap.get? b = some o) → (∃ c, s2.heap.get? S = some (lstObj #[] c)) → s2.os = s.os → s2.gens = s.gens →
    ∃ T : TgC, T.P = P ∧ T.w = w ∧ T.S = S ∧ T.a = a ∧ T.g = g ∧ (∃ gs, s2.gens[g]? = some gs ∧ gs.Goes (model P w) A (tgR T rows) (tgY T) sizeLine (.send .none) (s2.setGen g .running)) ∧
      ∀ s' bs H' acc c, TgM T bs H' s' → TgQ T rows (bs.map V.ref) H' → s'.heap.get? S = some (lstObj acc c) → Vals (bs.map V.ref) acc.toList → Z acc c s'
section
variable {P : Program} {w : World} {A : Around} {E : Value → Shared → Prop} {s : Shared}
theorem tg_collect {Q : List Value → Shared → Prop} {a : Addr} {g : Nat} {rows : List (List V)} (hh : A.handled = none) (hd : A.depth < recursionLimit) (hg : s.heap.IsGen a g) (hl : s.heap.NoLimit)
    (W : TgWake P w A.in1.in1 a g rows s (fun acc _ s' => Q acc.toList s')) : wpAny (model P w) A (collect (.ref a)) Q E s := by
  have ha : a < s.heap.objs.size := by obtain ⟨_, _, _, e, _⟩ := hg; exact Heap.lt_size e
  have hSa : s.heap.objs.size ≠ a := Nat.ne_of_gt ha
  have hSc : s.heap.objs.size ≠ cStatics := by obtain ⟨_, hn, _⟩ := hl; exact Nat.ne_of_gt hn.lt
  unfold collect; refine wpAny_bind (wpAny_runValue (codeAny_builtin F.entry_proto_collect ?_)); rw [Around.under_plainId F.plain_proto_collect _]
  show wpAny _ A.in1 (newList [] >>= fun q => again (.builtin "list.__iadd__" ⟨[q, .ref a], []⟩)) _ _ s
  refine wpAny_bind (wpAny_newObj_type ?_); refine wpAny_pure ⟨plainId_quiet F.plain_list_iadd _, codeAny_builtin F.entry_list_iadd ?_⟩; rw [Around.under_plainId F.plain_list_iadd _]
  have kp : ∀ b o, s.heap.get? b = some o → (s.heap.push { cls := .type "list", data := .seq ([] : List Value).toArray }).get? b = some o := fun b o e => Heap.get?_push_of_some _ e
  have ty : ∀ {h : Heap}, (∀ b o, s.heap.get? b = some o → h.get? b = some o) → h.IsGen a g := fun {h} q => hg.keeps q
  show wpAny _ A.in1 (Builtin.List.listExtendWith (.ref s.heap.objs.size) (.ref a) (.ref s.heap.objs.size)) _ _ _
  unfold Builtin.List.listExtendWith; refine wpAny_bind (wpAny_typeOf (Heap.IsGen.typeIs (s := { s with heap := _ }) (ty kp)) ?_)
  have d1 : Builtin.List.listSameRef (.ref s.heap.objs.size) (.ref a) = false := by simp [Builtin.List.listSameRef, hSa]
  have d2 : (Value.type "generator" == Value.type "list") = false ∧ (Value.type "generator" == Value.type "tuple") = false := ⟨by decide, by decide⟩
  simp only [d1, d2.1, d2.2, Bool.or_false, Bool.false_eq_true, if_false]
  refine wpAny_bind (wpAny_pyIter_gen (s := { s with heap := _ }) (ty kp) (wpAny_bind (wpAny_holding ?_)))
  unfold Builtin.List.listLengthHint; refine wpAny_bind (wpAny_specialOf (Heap.IsGen.typeIs (s := { s with heap := _ }) (ty kp)) F.gen_no_len ?_)
  show wpAny _ A.in1 (specialOf (Value.ref a) (Str.ofString "__length_hint__") >>= _) _ _ _
  refine wpAny_bind (wpAny_specialOf (Heap.IsGen.typeIs (s := { s with heap := _ }) (ty kp)) F.gen_no_hint (wpAny_pure ?_))
  show wpAny _ A.in1 (rule "list.extend.makes-room" >>= fun _ => Builtin.List.listTouch (.ref s.heap.objs.size) >>= fun _ => again (.builtin "list.extend.loop" ⟨[.ref s.heap.objs.size, .ref a, .ref s.heap.objs.size], []⟩)) _ _ _
  refine wpAny_bind (wpAny_rule (wpAny_bind ?_))
  have e1 : (s.heap.push { cls := .type "list", data := .seq ([] : List Value).toArray }).get? s.heap.objs.size = some { cls := .type "list", data := .seq ([] : List Value).toArray } := Heap.get?_push_size _ rfl
  show wpAny _ A.in1 (updateSeq s.heap.objs.size (·.push .none) >>= fun _ => updateSeq s.heap.objs.size (·.pop)) _ _ _
  refine wpAny_bind (wpAny_updateSeq e1 rfl ?_)
  have e2 := Heap.get?_update_self (Obj.mapSeq (·.push Value.none)) e1 rfl
  refine wpAny_updateSeq e2 rfl ?_
  have e3 := Heap.get?_update_self (Obj.mapSeq (·.pop)) e2 rfl
  have kp3 : ∀ b o, s.heap.get? b = some o → (((s.heap.push { cls := .type "list", data := .seq ([] : List Value).toArray }).update s.heap.objs.size (Obj.mapSeq (·.push Value.none))).update s.heap.objs.size (Obj.mapSeq (·.pop))).get? b = some o := fun b o e => by
    have hb : s.heap.objs.size ≠ b := Nat.ne_of_gt (Heap.lt_size e)
    exact (Heap.get?_update_other _ _ hb).trans ((Heap.get?_update_other _ _ hb).trans (kp b o e))
  obtain ⟨T, rfl, rfl, t3, rfl, rfl, go, fin⟩ := W s.heap.objs.size { s with heap := _ } (Nat.le_refl _) kp3 ⟨_, e3⟩ rfl rfl
  refine wpAny_pure ⟨plainId_quiet F.plain_extend_loop _, ?_⟩
  have D : ∀ Rr : Result → Shared → Prop, (∀ s' bs H', TgM T bs H' s' → TgQ T rows (bs.map V.ref) H' → Rr (.ok (.ret (.ref s.heap.objs.size))) s') → codeAny (model T.P T.w) A (.builtin "list.extend.loop" ⟨[.ref T.S, .ref T.a, .ref s.heap.objs.size], []⟩) Rr _ := fun Rr h =>
    tg_drain (T := T) (rows := rows) (A := A) (res := .ref s.heap.objs.size) hh hd h sizeLine { s with heap := _ } (ty kp3) (hl.keeps kp3) go
  rw [t3] at D
  refine D _ fun s' bs H' M q => ?_
  obtain ⟨acc, c, f1, f2⟩ := M.ls
  rw [t3] at f1
  show wpAny _ A (load s.heap.objs.size >>= _) _ _ s'
  exact wpAny_bind (wpAny_load f1 (wpAny_pure (fin s' bs H' acc c M q f1 f2)))
end
end AK
set_option Elab.async false
set_option linter.all false
set_option maxRecDepth 100000
set_option maxHeartbeats 4000000
namespace AK
open PySem PySem.Spec PyProof.Rows L2 GenW
section
variable {P : Program} {w : World} {A : Around} {E : Value → Shared → Prop} {s : Shared}
theorem tg_new {Q : Value → Shared → Prop} {a : Addr} {g : Nat} {rows : List (List V)} (hh : A.handled = none) (hd : A.depth < recursionLimit) (hg : s.heap.IsGen a g) (hl : s.heap.NoLimit)
    (W : TgWake P w A.in1.in1.in1 a g rows s (fun acc _ s' => acc.size ≤ sizeLine ∧ Q (.ref s'.heap.objs.size) { s' with heap := s'.heap.push { cls := .type "tuple", data := .seq acc } })) :
    codeAny (model P w) A (.call (.builtin "tuple.__new__") ⟨[.type "tuple", .ref a], []⟩) (wants Q E) s := by
  refine codeAny_of_tree ?_; show wpAny _ A.in1 (do checkBuiltinCall "tuple.__new__" ⟨[.type "tuple", .ref a], []⟩; again (.builtin "tuple.__new__" ⟨[.type "tuple", .ref a], []⟩)) _ _ s
  refine wpAny_bind (wpAny_of_eq (F.newCall_tuple_1 _) (wpAny_pure ⟨plainId_quiet F.plain_tuple_new _, codeAny_builtin F.entry_tuple_new ?_⟩)); rw [Around.under_plainId F.plain_tuple_new _]
  have z1 := sub_tuple_self
  have z2 := init_tuple_lookup
  have z3 := madeHere_tuple
  have z4 : s.TypeIs (.ref a) "generator" := hg.typeIs
  have C : ∀ (Q' : List Value → Shared → Prop) (E' : Value → Shared → Prop), (∀ acc s', acc.size ≤ sizeLine → Q (.ref s'.heap.objs.size) { s' with heap := s'.heap.push { cls := .type "tuple", data := .seq acc } } → Q' acc.toList s') → wpAny (model P w) A.in1 (collect (.ref a)) Q' E' s := fun Q' E' h =>
    tg_collect (rows := rows) hh (by show A.depth < _; exact hd) hg hl (fun S s2 x1 x2 x3 x4 x5 => by
      obtain ⟨T, t1, t2, t3, t4, t5, go, fin⟩ := W S s2 x1 x2 x3 x4 x5
      exact ⟨T, t1, t2, t3, t4, t5, go, fun s' bs H' acc c y1 y2 y3 y4 => h acc s' (fin s' bs H' acc c y1 y2 y3 y4).1 (fin s' bs H' acc c y1 y2 y3 y4).2⟩)
  wp_walk using wpAny_typeOf z4, C
  intro acc s' hz hq
  show wpAny _ _ (Builtin.Tuple.tupleExact acc.toList.toArray >>= fun v => ret v) _ _ _
  unfold Builtin.Tuple.tupleExact; refine wpAny_bind (wpAny_newObj_type (wpAny_pure ?_) (by show acc.toList.toArray.size ≤ sizeLine; simp only [Array.toArray_toList]; exact hz))
  have e : acc.toList.toArray = acc := by simp
  rw [e]
  exact hq
theorem tg_tuple {Q : Value → Shared → Prop} {a : Addr} {g : Nat} {rows : List (List V)} (hh : A.handled = none) (hd : A.depth < recursionLimit) (hg : s.heap.IsGen a g) (hl : s.heap.NoLimit)
    (W : TgWake P w A.in1.in1.in1.in1 a g rows s (fun acc _ s' => acc.size ≤ sizeLine ∧ Q (.ref s'.heap.objs.size) { s' with heap := s'.heap.push { cls := .type "tuple", data := .seq acc } })) :
    wpAny (model P w) A (call (.type "tuple") [.ref a]) Q E s := by
  refine callType_codes (Q₁ := fun obj s1 => s1.TypeIs obj "tuple" ∧ Q obj s1) F.called_tuple (F.typeCall_tuple_1 _) F.entry_object_init (tg_new (A := A.in1) (rows := rows) hh (by show A.depth < _; exact hd) hg hl fun S s2 x1 x2 x3 x4 x5 => ?_) fun obj s1 h1 => ?_
  · obtain ⟨T, t1, t2, t3, t4, t5, go, fin⟩ := W S s2 x1 x2 x3 x4 x5
    exact ⟨T, t1, t2, t3, t4, t5, go, fun s' bs H' acc c y1 y2 y3 y4 => ⟨(fin s' bs H' acc c y1 y2 y3 y4).1, ⟨_, Heap.get?_push_size _ rfl, rfl⟩, (fin s' bs H' acc c y1 y2 y3 y4).2⟩⟩
  · exact ⟨h1.1, F.args_object_init_2 obj _, object_init_meets F.called_tuple.init.lookup F.called_tuple.made (by decide) P w A.in1 _ s1 ⟨h1.1, rfl, h1.2⟩⟩
end
end AK
set_option Elab.async false
set_option linter.all false
set_option maxRecDepth 100000
set_option maxHeartbeats 4000000
namespace AK
open PySem PySem.Spec PyProof.Rows L2 GenW
/-- a list or a tuple that H holds itself -/
def RowAt (H : Hp) (a : Addr) (row : List V) : Prop := H a = some (.lst row) ∨ H a = some (.tup row)
/-- tuple(tuple(x) for x in te): te a list or tuple of lists or tuples; behind it the def's table at P may have grown -/
def tTupG (P : Addr) (te : TE) : TE := fun σ H Q => te σ H fun v H1 => ∃ (l : Addr) (as : List Addr) (rows : List (List V)), v = .ref l ∧ RowAt H1 l (as.map V.ref) ∧ as.length = rows.length ∧ as.length ≤ sizeLine ∧
  (∀ (i : Nat) (a : Addr) (row : List V), as[i]? = some a → rows[i]? = some row → RowAt H1 a row) ∧ GxR.TabG H1 P ∧
  ∀ (H2 : Hp) (t : Addr) (bs : List Addr), (∀ b o, b ≠ P → H1 b = some o → H2 b = some o) → GxR.TabG H2 P → H1 t = none → H2 t = some (.tup (bs.map V.ref)) → bs.length = rows.length →
    (∀ (i : Nat) (b : Addr) (row : List V), bs[i]? = some b → rows[i]? = some row → H2 b = some (.tup row)) → Q (.ref t) H2
section
variable {X : Cx}
theorem pe_tupG {c P : Addr} {iter : Expr} {x : Str} {px p0 p1 p2 p3 pos gpos : Pos} {scope : Scope} {te : TE} {k : Nat}
    (hr : Room k X.A) (hg : Gl X "tuple") (hm : X.mg "tuple" = none) (TB : GxR.TabB X.base X.mg c P) (hcode : X.env.code = .ref c) (S : GxR.GenS X.env scope x) (hi : PE X iter te) (hgt : scope.names.lookup (Str.ofString "tuple") = some .globalImplicit) (hd : (x == ("__debug__" : Str)) = false)
    (hs : ∀ v, genFold iter X.env v = pure v)
    (he : starEach [.GeneratorExp (.Call (.Name "tuple" p1) [.Name x p2] [] p3) [⟨.Name x px, iter, [], 0⟩] scope gpos] X.env = (false, eval (.GeneratorExp (.Call (.Name "tuple" p1) [.Name x p2] [] p3) [⟨.Name x px, iter, [], 0⟩] scope gpos) X.env) :: starEach [] X.env := by rfl) :
    PE X (.Call (.Name "tuple" p0) [.GeneratorExp (.Call (.Name "tuple" p1) [.Name x p2] [] p3) [⟨.Name x px, iter, [], 0⟩] scope gpos] [] pos) (tTupG P te) := by
  refine ⟨fun pins s σ H Q I h => ?_⟩
  refine wpAny_Call_Name_kw (ld_blt (u := .type "tuple") I hg hm (by decide +kernel) ?_)
  refine PyProof.Rows.callWith_type1 ?_ he (by rfl)
  rw [he]
  show wpAny _ _ (spliced ((false, eval (.GeneratorExp (.Call (.Name "tuple" p1) [.Name x p2] [] p3) [⟨.Name x px, iter, [], 0⟩] scope gpos) X.env) :: backTo pos (starEach [] X.env))) _ _ s
  refine Calls.spliced_cons (wpAny_GeneratorExp_make S.co (closure_ok S.free) S.cell S.dot S.kind hr.depth ?_ hs)
  refine thn (hi.run pins s σ H _ I h) fun xv s1 ⟨v, H1, I1, r1, q1⟩ => ?_
  obtain ⟨l, as, rows, rfl, hl, hlen, hle, hrow, ⟨ps, hP, ht⟩, q1⟩ := q1
  obtain rfl : xv = Value.ref l := r1
  have hPs : s1.heap.get? P = some { cls := .none, data := .fields ps } := I1.hok P _ hP
  have hPlt : P < s1.heap.objs.size := Heap.lt_size hPs
  -- what follows once the iterator o stands at I = s1's size
  have core : ∀ (o : Obj) (its : Array Value) (St₀ : Nat → Heap → Prop), its.size = rows.length → (∀ (i : Nat) (v : Value), its[i]? = some v → ∃ a, v = .ref a ∧ as[i]? = some a) → (∀ A' : Around, A'.handled = none → Walks X.prog X.w A' s1.heap.objs.size [s1.heap.objs.size, l] [s1.heap.objs.size] its.size (fun i v => its[i]? = some v) St₀) →
      (∀ h : Heap, (∀ b u, (b = s1.heap.objs.size ∨ b = l) → (s1.heap.push o).get? b = some u → h.get? b = some u) → St₀ 0 h) →
      (s1.heap.push o).NoLimit ∧ wpAny (model X.prog X.w) X.A (genexprCode X.env gpos (X.env.qual ++ "<genexpr>") scope) (fun code s3 => wpAny (model X.prog X.w) X.A (builtinsFor X.env.globals X.env.builtins) (fun bi s4 =>
        ∀ h', h'.Ns s4.heap.objs.size (fun y => if y = ".0" then some (.ref s1.heap.objs.size) else none) → Heap.SameBut s4.heap.objs.size (s4.heap.push { cls := .type "frame", data := .dict #[] }) h' →
          wpAny (model X.prog X.w) X.A (spliced (backTo pos (starEach [] X.env))) (fun vs s9 => wpAny (model X.prog X.w) X.A (call (.type "tuple") (.ref h'.objs.size :: vs)) (EP X pins σ Q) X.xe s9) X.xe { s4 with
            gens := s4.gens.push (.fresh (.compStart (.GeneratorExp (.Call (.Name "tuple" p1) [.Name x p2] [] p3) [⟨.Name x px, iter, [], 0⟩] scope gpos) 0 (.ref s1.heap.objs.size) .none (genEnv scope (cloFrom X.env.cells scope.names []) s4.heap.objs.size code bi X.env))),
            toks := s4.toks + 1 + 1 + 1,
            heap := h'.push { cls := .type "generator", data := .fields #[.int s4.gens.size 0, .str "<genexpr>" (s4.toks + 1), .str (X.env.qual ++ "<genexpr>") (s4.toks + 1 + 1)] } }) X.xe s3) X.xe { s1 with heap := s1.heap.push o } := by
    intro o its St₀ hsz hat W hst0
    have kp1 : ∀ b u, s1.heap.get? b = some u → (s1.heap.push o).get? b = some u := fun b u e => Heap.get?_push_of_some _ e
    have hP2 : (s1.heap.push o).get? P = some { cls := .none, data := .fields ps } := kp1 _ _ hPs
    have cd : PySem.W.CodeHd (s1.heap.push o) c P := TB.code.keeps fun b u e => kp1 b u (I1.bk b u e)
    have lim2 : (s1.heap.push o).NoLimit := I1.nolimit.push o
    refine ⟨lim2, ?_⟩
    have rest : ∀ (code : Value) (h3 : Heap) (tk : Nat) (ps' : Array Value), Heap.ExtBut P (s1.heap.push o) h3 → (s1.heap.push o).objs.size ≤ h3.objs.size → h3.get? P = some { cls := .none, data := .fields ps' } → (∃ more, ps' = ps ++ more) → TriplesOk ps'.toList →
        wpAny (model X.prog X.w) X.A (builtinsFor X.env.globals X.env.builtins) (fun bi s4 =>
          ∀ h', h'.Ns s4.heap.objs.size (fun y => if y = ".0" then some (.ref s1.heap.objs.size) else none) → Heap.SameBut s4.heap.objs.size (s4.heap.push { cls := .type "frame", data := .dict #[] }) h' →
            wpAny (model X.prog X.w) X.A (spliced (backTo pos (starEach [] X.env))) (fun vs s9 => wpAny (model X.prog X.w) X.A (call (.type "tuple") (.ref h'.objs.size :: vs)) (EP X pins σ Q) X.xe s9) X.xe { s4 with
              gens := s4.gens.push (.fresh (.compStart (.GeneratorExp (.Call (.Name "tuple" p1) [.Name x p2] [] p3) [⟨.Name x px, iter, [], 0⟩] scope gpos) 0 (.ref s1.heap.objs.size) .none (genEnv scope (cloFrom X.env.cells scope.names []) s4.heap.objs.size code bi X.env))),
              toks := s4.toks + 1 + 1 + 1,
              heap := h'.push { cls := .type "generator", data := .fields #[.int s4.gens.size 0, .str "<genexpr>" (s4.toks + 1), .str (X.env.qual ++ "<genexpr>") (s4.toks + 1 + 1)] } }) X.xe { s1 with heap := h3, toks := tk } := by
      intro code h3 tk ps' hx hsz3 hP3 hmore ht3
      obtain ⟨more, rfl⟩ := hmore
      obtain ⟨bm, ob, b1, b2, b3, b4, b5, b6, b7, b8⟩ := TB.bm
      have kp3 : ∀ b u, b ≠ P → s1.heap.get? b = some u → h3.get? b = some u := fun b u hb e => hx b u hb (kp1 b u e)
      have sz1 : (s1.heap.push o).objs.size = s1.heap.objs.size + 1 := Heap.size_push ..
      have hcP : cStatics ≠ P := fun z => by
        obtain ⟨_, ⟨o', es, ep, ho, hd', _⟩, _⟩ := I1.nolimit
        rw [z, hPs] at ho
        cases ho
        cases hd'
      refine wpAny_builtinsFor (m := X.mg) (by rw [I1.ok.glob]; exact ((I1.mod.glob.keeps I1.bk).push o).extBut hx TB.gP) b1 b2 (kp3 _ _ b4 (I1.bk _ _ b5)) b6 b7 b8 ?_
      intro h' hn' sb
      refine Calls.spliced_nil ?_
      have J : Inv X pins σ (upd H1 P (.tbl (ps ++ more))) { s1 with heap := h3, toks := tk } := GxR.inv_tab (g' := s1.gens) (d' := s1.drawn) I1 hP kp3 hP3 I1.bare
      have szh : h'.objs.size = h3.objs.size + 1 := by rw [sb.1, Heap.size_push]
      have kp4 : ∀ b u, h3.get? b = some u → h'.get? b = some u := fun b u e => sb.extBut b u (Nat.ne_of_lt (Heap.lt_size e)) (Heap.get?_push_of_some _ e)
      have lim3 : h3.NoLimit := J.nolimit
      have upd_at : ∀ b, b ≠ P → upd H1 P (.tbl (ps ++ more)) b = H1 b := fun b hb => upd_ne hb
      have neP : ∀ {b u}, H1 b = some u → (∀ q, u ≠ .tbl q) → b ≠ P := fun {b u} e hq z => by
        rw [z, hP] at e
        exact hq ps (Option.some.inj e).symm
      have rowP : ∀ {b row}, RowAt H1 b row → b ≠ P := fun {b row} r => by
        rcases r with r | r
        · exact neP r fun q z => by cases z
        · exact neP r fun q z => by cases z
      have row4 : ∀ {b row}, RowAt H1 b row → RowAt (upd H1 P (.tbl (ps ++ more))) b row := fun {b row} r => by
        have hb := rowP r
        unfold RowAt
        rw [upd_at b hb]
        exact r
      have baseLt : cStatics < X.base.objs.size := by
        obtain ⟨_, hn, _⟩ := I1.ok.mod.nolimit
        exact hn.lt
      have bsz1 : X.base.objs.size ≤ s1.heap.objs.size := Nat.le_trans I1.ok.bsz I1.sz
      refine tg_tuple (rows := rows) hr.hd hr.depth ⟨_, _, _, Heap.get?_push_size _ rfl, rfl, rfl, rfl⟩ ?_ ?_
      · exact lim3.keeps fun b u e => Heap.get?_push_of_some _ (kp4 b u e)
      intro Z s2 x1 x2 x3 x4 x5
      have szG : (h'.push { cls := .type "generator", data := .fields #[.int s1.gens.size 0, .str "<genexpr>" (tk + 1), .str (X.env.qual ++ "<genexpr>") (tk + 1 + 1)] }).objs.size = h3.objs.size + 2 := by rw [Heap.size_push, szh]
      have x1' : h3.objs.size + 2 ≤ Z := by rw [← szG]; exact x1
      have kp5 : ∀ b u, h3.get? b = some u → s2.heap.get? b = some u := fun b u e => x2 b u (Heap.get?_push_of_some _ (kp4 b u e))
      have h31 : s1.heap.objs.size + 1 ≤ h3.objs.size := by rw [← sz1]; exact hsz3
      have y3 : s1.heap.objs.size < h3.objs.size := h31
      have y4 : h3.objs.size < Z := Nat.lt_of_lt_of_le (Nat.lt_add_of_pos_right (by decide)) x1'
      have y5 : h3.objs.size < h'.objs.size := by rw [szh]; exact Nat.lt_succ_self _
      have y6 : h'.objs.size < Z := by rw [szh]; exact x1'
      have y1 : h3.objs.size ≤ Z := Nat.le_of_lt y4
      have y2 : h3.objs.size ≤ h'.objs.size := Nat.le_of_lt y5
      have hg2 : s2.gens[s1.gens.size]? = some (.fresh (.compStart (.GeneratorExp (.Call (.Name "tuple" p1) [.Name x p2] [] p3) [⟨.Name x px, iter, [], 0⟩] scope gpos) 0 (.ref s1.heap.objs.size) .none (genEnv scope (cloFrom X.env.cells scope.names []) h3.objs.size code builtinsNs X.env))) := by
        rw [x5]
        exact Array.getElem?_push_size ..
      let T : TgC := ⟨X.prog, X.w, frs X.stack, X.base, upd H1 P (.tbl (ps ++ more)), { s1 with heap := h3, toks := tk }, s1.heap.objs.size, h3.objs.size, Z, h'.objs.size, s1.gens.size, bsz1, Nat.le_refl _, y1, y2, Nat.le_trans bsz1 (Nat.le_of_lt y3), y3, Nat.ne_of_lt y4, Nat.ne_of_lt y5, Nat.ne_of_gt y6, baseLt⟩
      have B : TgB T X.mg := ⟨I1.mod.glob, I1.mod.blt, hm⟩
      have fresh4 : ∀ b : Addr, h3.objs.size ≤ b → upd H1 P (.tbl (ps ++ more)) b = none := fun b hb => J.hok.fresh hb
      have n1I : upd H1 P (.tbl (ps ++ more)) s1.heap.objs.size = none := by
        rw [upd_at _ (Nat.ne_of_gt hPlt)]
        exact I1.hok.fresh (Nat.le_refl _)
      have bare2 : AllBare s2.gens := by
        rw [x5]
        exact AllBare.push I1.bare rfl
      obtain ⟨c0, hS0⟩ := x3
      have M0 : TgM T [] (upd H1 P (.tbl (ps ++ more))) (s2.setGen s1.gens.size .running) :=
        ⟨x4, allBare_setGen bare2 rfl, lim3.keeps kp5, ⟨_, _, _, x2 _ _ (Heap.get?_push_size _ rfl), rfl, rfl, rfl⟩, Un.kept kp5, J.hok.kept kp5, ⟨_, (hn'.keeps fun b u e => x2 b u (Heap.get?_push_of_some _ e))⟩, ⟨#[], c0, hS0, .nil⟩, n1I, fresh4 _ (Nat.le_refl _), fresh4 _ y1, fresh4 _ y2, Same.refl _, fun b u e => kp5 b u (J.bk b u e)⟩
      refine ⟨T, rfl, rfl, rfl, rfl, rfl, ⟨_, hg2, rfl, ?_⟩, ?_⟩
      · -- the generator's code
        have W' := W
        have hh : X.A.in1.in1.in1.in1.handled = none := hr.hd
        have hh2 : (X.A.in1.in1.in1.in1.over (.compStart (.GeneratorExp (.Call (.Name "tuple" p1) [.Name x p2] [] p3) [⟨.Name x px, iter, [], 0⟩] scope gpos) 0 (.ref s1.heap.objs.size) .none (genEnv scope (cloFrom X.env.cells scope.names []) h3.objs.size code builtinsNs X.env)) []).handled = none := hr.hd
        have st0 : St₀ 0 (s2.setGen s1.gens.size .running).heap := hst0 _ fun b u hb e => kp5 b u (hx b u (by
          rcases hb with z | z
          · rw [z]; exact Nat.ne_of_gt hPlt
          · rw [z]; exact rowP hl) e)
        have loop := fun s0 => tg_loop (T := T) (mg := X.mg) B (A := X.A.in1.in1.in1.in1) (cenv := genEnv scope (cloFrom X.env.cells scope.names []) h3.objs.size code builtinsNs X.env) (x := x) (px := px) (p1 := p1) (p2 := p2) (p3 := p3) (pos := gpos) (iter := iter) (scope := scope) (l := l) (as := as) (rows := rows) (St₀ := St₀) (its := its)
          hh W hsz (by rw [← hlen]; exact hle) (fun i v hv => by
            obtain ⟨a, rfl, ha⟩ := hat i v hv
            have hi : i < rows.length := by rw [← hsz]; exact (Array.getElem?_eq_some_iff.mp hv).1
            exact ⟨a, rows[i], rfl, List.getElem?_eq_getElem hi, row4 (hrow i a _ ha (List.getElem?_eq_getElem hi))⟩)
          (by rcases row4 hl with z | z <;> exact ⟨_, z⟩) S.kind I1.ok.glob rfl rfl S.loc hgt hd S.co its.size 0 s0 (s2.setGen s1.gens.size .running) [] _ (Nat.sub_zero _) (Nat.zero_le _) rfl M0 st0 (fun j b row hj => by simp at hj)
        show Seg _ _ _ _ _ _ _ ((compStart (.GeneratorExp (.Call (.Name "tuple" p1) [.Name x p2] [] p3) [⟨.Name x px, iter, [], 0⟩] scope gpos) 0 (.ref s1.heap.objs.size) .none (genEnv scope (cloFrom X.env.cells scope.names []) h3.objs.size code builtinsNs X.env)).onRaise (leaving (genEnv scope (cloFrom X.env.cells scope.names []) h3.objs.size code builtinsNs X.env))) [] _
        unfold compStart
        rw [Sem.onRaise_eq_wrap]
        show Seg _ _ _ _ _ _ _ ((ask >>= _).wrap _ _ _ _) [] _
        refine seg_bind_wrap (wpAny_askSetting ?_)
        split
        · exact seg_again rfl (loop _)
        · first
            | exact seg_bind_wrap (wpAny_rule (seg_bind_wrap (wpAny_standAt (seg_bind_wrap ((W _ hh2).self 0 _ _ _ st0 (seg_again rfl (loop _)))))))
            | (refine seg_bind_wrap (wpAny_rule ?_); show Seg _ _ _ _ _ _ _ ((standAt iter.pos >>= _).wrap _ _ _ _) [] _; exact seg_bind_wrap (wpAny_standAt (seg_bind_wrap ((W _ hh2).self 0 _ _ _ st0 (seg_again rfl (loop _))))))
      · intro s' bs H' acc cc M q eS rv
        obtain ⟨bs', eb, hbl, hbt, hle', _⟩ := q
        have ebs : bs = bs' := by
          exact (List.map_inj_right fun y z h => V.ref.inj h).mp eb
        subst ebs
        have hacc : acc.size ≤ sizeLine := by
          have h1 : acc.size = bs.length := TgM.len (T := T) (H := H') (s := s') rv
          omega
        refine ⟨hacc, ?_⟩
        have ex : ExOk X pins [s1.heap.objs.size] := fun b hb => by
          rw [List.mem_singleton.mp hb]
          refine ⟨.inr I1.sz, Nat.ne_of_gt I1.lt, fun y c' e => ?_, fun p hp => ?_⟩
          · obtain ⟨v, o', ho, _⟩ := I1.cell y c' e
            exact Nat.ne_of_lt (Heap.lt_size ho)
          · exact Nat.ne_of_lt (Heap.lt_size (I1.pin p hp).1)
        have K1 : Inv X pins σ (upd H' Z (.lst (bs.map V.ref))) s' := J.drained y1 (by rw [List.length_map]; omega) eS rv ex M.os M.bare M.un M.ok M.nS
        have K2 : Inv X pins σ (upd (upd H' Z (.lst (bs.map V.ref))) s'.heap.objs.size (.tup (bs.map V.ref))) { s' with heap := s'.heap.push { cls := .type "tuple", data := .seq acc } } :=
          K1.laid (t' := s'.toks) (fun b o e => Heap.get?_push_of_some _ e) (Nat.le_refl _) (show ObjOk X.prog X.w _ _ _ (.tup (bs.map V.ref)) from ⟨by rw [List.length_map]; omega, acc.toList, rv, by
            have e : acc.toList.toArray = acc := by simp
            rw [e]
            exact IsTup.new _ _⟩)
        have fS : upd H' Z (.lst (bs.map V.ref)) s'.heap.objs.size = none := K1.hok.fresh (Nat.le_refl _)
        have up : ∀ b u, H' b = some u → upd (upd H' Z (.lst (bs.map V.ref))) s'.heap.objs.size (.tup (bs.map V.ref)) b = some u := fun b u e => by
          have e2 : upd H' Z (.lst (bs.map V.ref)) b = some u := by
            rw [upd_ne (ne_of_none e M.nS)]
            exact e
          rw [upd_ne (ne_of_none e2 fS)]
          exact e2
        have ltS : Z < s'.heap.objs.size := Heap.lt_size eS
        refine ⟨.ref s'.heap.objs.size, _, K2, rfl, q1 _ _ bs (fun b u hb e => up b u (hle' b u ((upd_at b hb).trans e))) ⟨_, up P _ (hle' P _ upd_same), ht3⟩ (I1.hok.fresh (Nat.le_of_lt (Nat.lt_trans y3 (Nat.lt_trans y4 ltS)))) upd_same hbl fun i b row h1 h2 => up b _ (hbt i b row h1 h2)⟩
    cases hf : codeAmong gpos ps.toList with
    | none =>
      refine wpAny_genexprCodeX hcode (cd.code hP2 ht) (cd.tab hP2) hf fun c' h' tk hx hge hlt hco' _ htab' _ => ?_
      obtain ⟨_, _, _, _, _, _, _, _, _, _, _, _, _, _, _, _, _, _, _, htr, _⟩ := hco'
      exact rest _ h' tk _ hx (Nat.le_trans hge (Nat.le_of_lt hlt)) htab'.2 ⟨_, rfl⟩ htr
    | some cv =>
      refine wpAny_genexprCode_hit hcode (cd.code hP2 ht) hf ?_
      exact rest cv (s1.heap.push o) s1.toks ps (Heap.ExtBut.refl _ _) (Nat.le_refl _) hP2 ⟨#[], by simp⟩ ht
  have itsAt : ∀ {its : List Value}, Vals (as.map V.ref) its → its.toArray.size = rows.length ∧ ∀ (i : Nat) (v : Value), its.toArray[i]? = some v → ∃ a, v = .ref a ∧ as[i]? = some a := fun {its} rv => by
    have e1 : its.length = as.length := by rw [← rv.length, List.length_map]
    refine ⟨by rw [List.size_toArray, e1, hlen], fun i v hv => ?_⟩
    have hv2 : its[i]? = some v := by simpa using hv
    have hi : i < as.length := by rw [← e1]; exact (List.getElem?_eq_some_iff.mp hv2).1
    have hb : (as.map V.ref)[i]? = some (V.ref as[i]) := by rw [List.getElem?_map, List.getElem?_eq_getElem hi] <;> rfl
    obtain ⟨u, hu, ru⟩ := rv.get hb
    rw [hv2] at hu
    cases hu
    exact ⟨as[i], ru, List.getElem?_eq_getElem hi⟩
  have hl0 := hl
  rcases hl0 with hl0 | hl0
  · obtain ⟨hz, its, n, rv, e⟩ := I1.hok l _ hl0
    have il : s1.heap.IsList l its.toArray := ⟨_, e, rfl, n, rfl⟩
    have hl1 : l < s1.heap.objs.size := Heap.lt_size e
    obtain ⟨z1, z2⟩ := itsAt rv
    refine wpAny_pyIter_list il (core { cls := .type "list_iterator", data := .fields #[.ref l, .int 0 0] } its.toArray (fun i h => h.IsListIter s1.heap.objs.size l i ∧ h.IsList l its.toArray) z1 z2 (fun A' hA => Walks.list hA _ _ (Nat.ne_of_lt hl1) _) fun h k => ?_)
    exact ⟨⟨_, k _ _ (.inl rfl) (Heap.get?_push_size _ rfl), rfl, rfl⟩, ⟨_, k _ _ (.inr rfl) (Heap.get?_push_of_some _ e), rfl, n, rfl⟩⟩
  · obtain ⟨hz, its, rv, o', e, ec, n, ed⟩ := I1.hok l _ hl0
    have il : s1.heap.IsTuple l its.toArray := ⟨o', e, ec, n, ed⟩
    have hl1 : l < s1.heap.objs.size := Heap.lt_size e
    obtain ⟨z1, z2⟩ := itsAt rv
    refine wpAny_pyIter_tuple il (core { cls := .type "tuple_iterator", data := .fields #[.ref l, .int 0 0] } its.toArray (fun i h => h.IsTupleIter s1.heap.objs.size l i ∧ h.IsTuple l its.toArray) z1 z2 (fun A' hA => Walks.tuple hA _ _ (Nat.ne_of_lt hl1) _) fun h k => ?_)
    exact ⟨⟨_, k _ _ (.inl rfl) (Heap.get?_push_size _ rfl), rfl, rfl⟩, ⟨o', k _ _ (.inr rfl) (Heap.get?_push_of_some _ e), ec, n, ed⟩⟩
end
end AK
set_option Elab.async false
set_option linter.all false
set_option maxRecDepth 100000
set_option maxHeartbeats 4000000
namespace AK
open PySem PySem.Spec PyProof.Rows L2
/-! ### enumerate(tuple) -/
theorem new_enumT (l : Addr) (items : Array Value) :
    Meets (Builtin.«enumerate.__new__» ⟨[.type "enumerate", .ref l], []⟩) (fun _ R s => s.heap.IsTuple l items ∧
      R (.ok (.ret (.ref (s.heap.push { cls := .type "tuple_iterator", data := .fields #[.ref l, .int 0 0] }).objs.size)))
        { s with heap := (s.heap.push { cls := .type "tuple_iterator", data := .fields #[.ref l, .int 0 0] }).push { cls := .type "enumerate", data := .fields #[.none, .bool false, .ref s.heap.objs.size, rawInt 0, .none, .none] } }) :=
  .of_wp fun prog w A R s h => by
    obtain ⟨hp, g, d, tk, os⟩ := s; obtain ⟨⟨o, ho, hc, n, hd⟩, h⟩ := h
    have hsub := sub_enumerate; have hT : Heap.IsTuple (Shared.heap ⟨hp, g, d, tk, os⟩) l items := ⟨o, ho, hc, n, hd⟩
    wp_walk using AutoSeq1.wpAny_loadPart' ho
    refine wpAny_stack_any fun st => wpAny_pure ?_; split
    · rename_i c _ _ _ _ _
      cases (c == Value.type "enumerate") <;> (wp_walk using AutoSeq1.wpAny_loadPart' ho, wpAny_pyIter_tuple hT; exact ⟨_, rfl, h⟩)
    · wp_walk using AutoSeq1.wpAny_loadPart' ho, wpAny_pyIter_tuple hT
      exact ⟨_, rfl, h⟩
theorem call_enumT {prog : Program} {w : World} {A : Around} {E : Value → Shared → Prop} {s : Shared} {l : Addr} {items : Array Value} {Q : Value → Shared → Prop} (hL : s.heap.IsTuple l items)
    (h : ∀ h', IsEnum h' (s.heap.objs.size + 1) s.heap.objs.size 0 .none → h'.IsTupleIter s.heap.objs.size l 0 → (∀ b o, s.heap.get? b = some o → h'.get? b = some o) → Q (.ref (s.heap.objs.size + 1)) { s with heap := h' }) :
    wpAny (model prog w) A (call (.type "enumerate") [.ref l]) Q E s := by
  refine callType_new F.called_enumerate (by decide) (F.typeCall_enumerate_1 _) (F.newCall_enumerate_1 _) (fun obj => F.args_object_init_2 obj _) F.entry_enumerate_new (new_enumT l items) ⟨hL, ?_⟩
  have hz : (s.heap.push { cls := .type "tuple_iterator", data := .fields #[.ref l, .int 0 0] }).objs.size = s.heap.objs.size + 1 := Heap.size_push ..
  show _ ∧ _
  rw [hz]
  have he : IsEnum ((s.heap.push { cls := .type "tuple_iterator", data := .fields #[.ref l, .int 0 0] }).push { cls := .type "enumerate", data := .fields #[.none, .bool false, .ref s.heap.objs.size, rawInt 0, .none, .none] }) (s.heap.objs.size + 1) s.heap.objs.size 0 .none := by
    have e := Heap.get?_push_size (s.heap.push { cls := .type "tuple_iterator", data := .fields #[.ref l, .int 0 0] }) (o := { cls := .type "enumerate", data := .fields #[.none, .bool false, .ref s.heap.objs.size, rawInt 0, .none, .none] }) rfl
    rw [hz] at e
    exact e
  exact ⟨⟨_, he, rfl⟩, h _ he ⟨_, Heap.get?_push_of_some _ (Heap.get?_push_size _ rfl), rfl, rfl⟩ fun b o x => Heap.get?_push_of_some _ (Heap.get?_push_of_some _ x)⟩
end AK
set_option Elab.async false
set_option linter.all false
set_option maxRecDepth 100000
set_option maxHeartbeats 4000000
namespace AK
open PySem PySem.Spec PyProof.Rows L2
/-- the tuple at a, each item in a new pair -/
def IteT (K : PySem.W.Frag) (a : Addr) : It :=
  ⟨fun i H => ∃ (xs : List V) (x : V), SqT K H a xs ∧ xs[i]? = some x, fun i H v H' => ∃ T x, v = .ref T ∧ H T = none ∧ H' = upd H T (.tup [.int (i : Nat), x]) ∧ ∀ xs, SqT K H a xs → xs[i]? = some x, fun i H => ∃ xs : List V, SqT K H a xs ∧ xs.length ≤ i⟩
theorem turn_enumT {P : Program} {w : World} {K : PySem.W.Frag} {elts : List Expr} {kk : Nat} {tpos : Pos} (a e it : Addr) :
    Turn P w K (.Tuple elts kk tpos) (IteT K a) [e, it] e (fun i h => (∃ old, IsEnum h e it ((i : Nat) : Int) old) ∧ h.IsTupleIter it a i ∧ e ≠ it ∧ a ≠ it ∧ a ≠ e) where
  mem := by simp
  obj := fun i h st b hb => by
    obtain ⟨⟨old, he⟩, ⟨o, ho, hc, hd⟩, _⟩ := st
    rcases List.mem_cons.mp hb with z | z
    · rw [z]; exact ⟨_, he, fun v q => nomatch q⟩
    · rw [List.mem_singleton.mp z]; exact ⟨o, ho, fun v q => by rw [hd] at q; cases q⟩
  keep := fun i h h' st k => ⟨⟨st.1.choose, k e (by simp) _ st.1.choose_spec⟩, st.2.1.at fun o q => k it (by simp) o q, st.2.2⟩
  item := by
    intro X hP hw hK hc i pins s σ H E I hf st hg; subst hP hw hK
    obtain ⟨⟨old, he⟩, hit, hne, hai, hae⟩ := st
    obtain ⟨xs, x, hq, hx⟩ := hg
    obtain ⟨its, rv, p, hz⟩ := I.tuple hq
    obtain ⟨u, hu, ru⟩ := rv.get hx
    have hel : e < s.heap.objs.size := Heap.lt_size he
    have hil : it < s.heap.objs.size := by obtain ⟨_, q, _⟩ := hit; exact Heap.lt_size q
    have hlen : i < its.toArray.size := by rw [List.size_toArray]; exact (List.getElem?_eq_some_iff.mp hu).1
    refine wpAny_pyNext_enum_itemD (Draws.tuple (A := X.A.in1) (show X.A.in1.handled = none from I.ok.hd hc) it a hai its.toArray) he ⟨hit, p⟩ hlen hne (fun z => ?_) fun v h' tk hv ho st' hT hsz hk => ?_
    · rcases List.mem_cons.mp z with z | z
      · exact hne z
      · exact hae (List.mem_singleton.mp z).symm
    obtain rfl : u = v := by
      have h1 : its[i]? = some v := by simpa using hv
      rw [hu] at h1
      exact Option.some.inj h1
    refine ⟨_, rfl, wpAny_letOwnedTupleGo_enum (s := { s with heap := h', toks := tk + 1 }) ho fun h'' he' sb => ?_⟩
    have hT2 : h''.get? s.heap.objs.size = some { cls := .type "tuple", data := .seq #[.int i tk, u] } := (sb.2 _ (Nat.ne_of_gt hel)).trans hT
    have new : ObjOk X.prog X.w (upd H s.heap.objs.size (.tup [.int (i : Nat), x])) h'' s.heap.objs.size (.tup [.int (i : Nat), x]) := ⟨by show 2 ≤ sizeLine; decide, [.int i tk, u], .cons ⟨_, rfl⟩ (.cons ru .nil), ⟨_, hT2, rfl, _, rfl⟩⟩
    have I1 : Inv X pins σ (upd H s.heap.objs.size (.tup [.int (i : Nat), x])) { s with heap := h'', toks := tk + 1 } :=
      I.turnedNew (ch := [e, it]) (fun b ob hb q => (sb.2 b (fun z => hb (by simp [z]))).trans (hk b ob (fun z => hb (by simp [z])) (fun z => hb (by simp [z])) q)) hf (Nat.le_refl _) new
    refine ⟨.ref s.heap.objs.size, _, I1, rfl, ⟨_, x, rfl, I.hok.fresh (Nat.le_refl _), rfl, fun ys hy => by rw [I.tuple_inj hy hq]; exact hx⟩, ⟨⟨u, ?_⟩, st'.1.at fun o q => (sb.2 it (Ne.symm hne)).trans q, hne, hai, hae⟩, fun b hb => ?_⟩
    · have e1 : ((i + 1 : Nat) : Int) = (i : Int) + 1 := by omega
      rw [e1]; exact he'
    · have hb' : b < s.heap.objs.size := by
        rcases List.mem_cons.mp hb with z | z
        · rw [z]; exact hel
        · rw [List.mem_singleton.mp z]; exact hil
      rw [upd_ne (Nat.ne_of_lt hb')]
      exact (hf b hb).1
  done := by
    intro X hP hw hK hc i pins s σ H E I hf st hg; subst hP hw hK
    obtain ⟨⟨old, he⟩, hit, hne, hai, hae⟩ := st
    obtain ⟨xs, hq, hx⟩ := hg
    obtain ⟨its, rv, p, hz⟩ := I.tuple hq
    obtain ⟨f0, f1, f2, f3, f4, f5⟩ := hf it (by simp)
    have hl := rv.length
    have hT : s.TypeIs (.ref e) "enumerate" := ⟨_, he, rfl⟩
    have hnone : its.toArray[i]? = none := by simp; omega
    unfold pyNext
    refine wpAny_bind (wpAny_attempt (wpAny_callSpecial?_slot (name := Str.ofString "__next__") hT F.slot_enumerate_next (wpAny_call_entry F.slot_enumerate_next hT F.entry_enumerate_next ?_ (F.args_enumerate_next_1 _))))
    show wpAny _ _ (field (.ref e) 2 >>= _) _ _ _; refine wpAny_bind (wpAny_field he rfl (x := .ref it) rfl (wpAny_bind (wpAny_nextOf_tuple_end (show X.A.in1.handled = none from I.ok.hd hc) hit p hnone fun h' x eb hx' => ?_)))
    obtain ⟨o, ho, hcl⟩ := hx'
    refine wpAny_bind (wpAny_isInstance (T := "StopIteration") (b := true) ⟨o, ho, hcl⟩ isSubtype_stop (wpAny_pure ⟨rfl, I.turned (t' := s.toks) (fun b o' hb q => eb b o' hb q) f0 f1 f3 f4 f5⟩))
  self := fun A i s Q E st h => wpAny_pyIter_enum st.1.choose_spec h
/-- enumerate(e), e a list or a tuple -/
def iEnumB (K : PySem.W.Frag) (ta : TA) : TI := fun σ H R => ta σ H fun vs H1 => ∃ a, vs = [.ref a] ∧ ((∃ xs, SqL K H1 a xs ∧ R (Ite K a) H1) ∨ (∃ xs, SqT K H1 a xs ∧ R (IteT K a) H1))
theorem pi_enumB {X : Cx} {e : Expr} {ta : TA} {p pos tpos : Pos} {elts : List Expr} {kk : Nat} (hg : Gl X "enumerate") (hm : X.mg "enumerate" = none) (ha : PA X [e] ta) (hs : starEach [e] X.env = [(false, eval e X.env)] := by rfl) :
    PI X (.Tuple elts kk tpos) (.Call (.Name "enumerate" p) [e] [] pos) (iEnumB X.K ta) := by
  refine ⟨fun pins s σ H R I h => ?_⟩
  refine Call_ (ld_blt I hg hm boot_enumerate (PyProof.Rows.callWith_type1 (thn (ha.run pos pins s σ H _ I h) fun us s1 ⟨vs, H1, I1, r1, q1⟩ => ?_) hs rfl))
  obtain ⟨a, rfl, q1⟩ := q1
  cases r1 with
  | cons r rr =>
    cases rr
    cases r
    have hfp : ∀ b ∈ [s1.heap.objs.size + 1, s1.heap.objs.size], FpOk X pins H1 b := fun b hb => by
      have hle : s1.heap.objs.size ≤ b := by
        rcases List.mem_cons.mp hb with z | z
        · rw [z]; exact Nat.le_add_right _ _
        · rw [List.mem_singleton.mp z]; exact Nat.le_refl _
      exact I1.fpOk hle (I1.hok.fresh hle)
    rcases q1 with ⟨xs, hq, q⟩ | ⟨xs, hq, q⟩
    · obtain ⟨its, rv, p', hz⟩ := I1.list hq
      exact call_enumerate_list p'.isList fun h' he hit hsz hk => wpAny_pyIter_enum he ⟨s1.heap.objs.size + 1, [s1.heap.objs.size + 1, s1.heap.objs.size], _, _, H1, rfl, I1.kept (t' := s1.toks) hk, turn_enum a (s1.heap.objs.size + 1) s1.heap.objs.size, ⟨⟨.none, he⟩, hit, Nat.succ_ne_self _⟩, hfp, q⟩
    · obtain ⟨its, rv, p', hz⟩ := I1.tuple hq
      have ha1 : a < s1.heap.objs.size := by obtain ⟨o, e, _⟩ := p'; exact Heap.lt_size e
      exact call_enumT p' fun h' he hit hk => wpAny_pyIter_enum he ⟨s1.heap.objs.size + 1, [s1.heap.objs.size + 1, s1.heap.objs.size], _, _, H1, rfl, I1.kept (t' := s1.toks) hk, turn_enumT a (s1.heap.objs.size + 1) s1.heap.objs.size, ⟨⟨.none, he⟩, hit, Nat.succ_ne_self _, Nat.ne_of_lt ha1, Nat.ne_of_lt (Nat.lt_succ_of_lt ha1)⟩, hfp, q⟩
end AK
set_option Elab.async false
set_option linter.all false
set_option maxRecDepth 100000
set_option maxHeartbeats 4000000
namespace AK
open PySem PySem.Spec PyProof.Rows L2
/-! ### loops, folded so that simp stops ahead of them -/
def contF (g : TG) (tb : TS) (D : Ends) (σ : L2.St) : It → Hp → Prop := fun J H1 => ∃ W : Nat → Nat → L2.St → Hp → Prop, (∃ m, W 0 m σ H1) ∧ ∀ i m σ H, W i m σ H →
  (J.stop i H ∧ D.nx σ H) ∨ (J.go i H ∧ ∃ N : L2.St → Hp → Prop, (∀ σ' H', N σ' H' → ∃ m', m' < m ∧ W (i + 1) m' σ' H') ∧ ∀ x H', J.yld i H x H' → g x σ H' fun σ2 H2 => tb { D with nx := N, ct := N, bk := D.nx } σ2 H2)
theorem tFor_c {wi : TI} {g : TG} {tb : TS} {D : Ends} {σ : L2.St} {H : Hp} : tFor wi g tb D σ H = wi σ H (contF g tb D σ) := rfl
def contL (g : TG) (tt : TT) (te : TE) (vs : List Nat) (σ : L2.St) (Q : VK) : It → Hp → Prop := fun J H1 => ∀ D, H1 D = none → ∃ W : Nat → Nat → Hp → Prop, (∃ m, W 0 m (upd H1 D (.lst []))) ∧ ∀ i m H, W i m H →
  (J.stop i H ∧ Q (.ref D) H) ∨ (J.go i H ∧ ∃ Nx : Hp → Prop, (∀ H', Nx H' → ∃ m', m' < m ∧ W (i + 1) m' H') ∧ ∀ x H', J.yld i H x H' → g x (wipe σ vs) H' fun σ2 H2 => wipe σ2 vs = wipe σ vs ∧ tt σ2 H2 fun b H3 =>
    if b = true then te σ2 H3 fun y H4 => ∃ acc, H4 D = some (.lst acc) ∧ acc.length < sizeLine ∧ Nx (upd H4 D (.lst (acc ++ [y]))) else Nx H3)
theorem tLc_c {wi : TI} {g : TG} {tt : TT} {te : TE} {vs : List Nat} {σ : L2.St} {H : Hp} {Q : VK} : tLc wi g tt te vs σ H Q = wi σ H (contL g tt te vs σ Q) := rfl
section
variable {g : TG} {tb : TS} {D : Ends} {σ : L2.St} {H : Hp} {K : PySem.W.Frag} {tt : TT} {te : TE} {vs : List Nat} {Q : VK}
theorem forRng {n : Nat} (Pv : Nat → L2.St → Hp → Prop) (h0 : Pv 0 σ H) (hs : ∀ i σ H, i < n → Pv i σ H → g (.int (0 + i)) σ H fun σ2 H2 => tb { D with nx := Pv (i + 1), ct := Pv (i + 1), bk := D.nx } σ2 H2) (hd : ∀ σ H, Pv n σ H → D.nx σ H) :
    contF g tb D σ (Itr 0 n) H := for_range Pv h0 hs hd
theorem forLst {a : Addr} {xs : List V} (Pv : Nat → L2.St → Hp → Prop) (h0 : Pv 0 σ H) (hl : ∀ i σ H, i ≤ xs.length → Pv i σ H → SqL K H a xs) (hs : ∀ i x σ H, xs[i]? = some x → Pv i σ H → g x σ H fun σ2 H2 => tb { D with nx := Pv (i + 1), ct := Pv (i + 1), bk := D.nx } σ2 H2) (hd : ∀ σ H, Pv xs.length σ H → D.nx σ H) :
    contF g tb D σ (Itl K a) H := for_list Pv h0 hl hs hd
theorem forTup {a : Addr} {xs : List V} (Pv : Nat → L2.St → Hp → Prop) (h0 : Pv 0 σ H) (hl : ∀ i σ H, i ≤ xs.length → Pv i σ H → SqT K H a xs) (hs : ∀ i x σ H, xs[i]? = some x → Pv i σ H → g x σ H fun σ2 H2 => tb { D with nx := Pv (i + 1), ct := Pv (i + 1), bk := D.nx } σ2 H2) (hd : ∀ σ H, Pv xs.length σ H → D.nx σ H) :
    contF g tb D σ (Itt K a) H := for_tup Pv h0 hl hs hd
theorem forStr {x : Str} (Pv : Nat → L2.St → Hp → Prop) (h0 : Pv 0 σ H) (hs : ∀ i c σ H, x.cps.toList[i]? = some c → Pv i σ H → g (.str ⟨#[c]⟩) σ H fun σ2 H2 => tb { D with nx := Pv (i + 1), ct := Pv (i + 1), bk := D.nx } σ2 H2) (hd : ∀ σ H, Pv x.cps.toList.length σ H → D.nx σ H) :
    contF g tb D σ (Its x) H := by
  have hz : x.cps.toList.length = x.cps.size := Array.length_toList ..
  refine ⟨fun i m σ H => m = x.cps.size - i ∧ i ≤ x.cps.size ∧ Pv i σ H, ⟨x.cps.size, by simp, Nat.zero_le _, h0⟩, ?_⟩
  rintro i m σ H ⟨rfl, hi, p⟩
  by_cases hlt : i < x.cps.size
  · refine .inr ⟨hlt, Pv (i + 1), fun σ' H' p' => ⟨x.cps.size - (i + 1), by omega, rfl, hlt, p'⟩, fun y H' hy => ?_⟩
    obtain ⟨rfl, c, hc, rfl⟩ := hy
    exact hs i c σ _ (by rw [Array.getElem?_toList]; exact hc) p
  · have e : i = x.cps.size := by omega
    subst e
    exact .inl ⟨Nat.le_refl _, hd σ H (by rw [hz]; exact p)⟩
theorem forEnumL {a : Addr} {xs : List V} (Pv : Nat → L2.St → Hp → Prop) (h0 : Pv 0 σ H) (hl : ∀ i σ H, i ≤ xs.length → Pv i σ H → SqL K H a xs)
    (hs : ∀ i x T σ H, xs[i]? = some x → Pv i σ H → H T = none → g (.ref T) σ (upd H T (.tup [.int (i : Nat), x])) fun σ2 H2 => tb { D with nx := Pv (i + 1), ct := Pv (i + 1), bk := D.nx } σ2 H2) (hd : ∀ σ H, Pv xs.length σ H → D.nx σ H) : contF g tb D σ (Ite K a) H := by
  refine ⟨fun i m σ H => m = xs.length - i ∧ i ≤ xs.length ∧ Pv i σ H, ⟨xs.length, by simp, Nat.zero_le _, h0⟩, ?_⟩
  rintro i m σ H ⟨rfl, hi, p⟩
  have q := hl i σ H hi p
  by_cases hlt : i < xs.length
  · refine .inr ⟨⟨xs, xs[i], q, List.getElem?_eq_getElem hlt⟩, Pv (i + 1), fun σ' H' p' => ⟨xs.length - (i + 1), by omega, rfl, hlt, p'⟩, fun y H' hy => ?_⟩
    obtain ⟨T, x, rfl, hT, rfl, hx⟩ := hy
    exact hs i x T σ H (hx xs q) p hT
  · obtain rfl : i = xs.length := by omega
    exact .inl ⟨⟨xs, q, Nat.le_refl _⟩, hd σ H p⟩
theorem forEnumT {a : Addr} {xs : List V} (Pv : Nat → L2.St → Hp → Prop) (h0 : Pv 0 σ H) (hl : ∀ i σ H, i ≤ xs.length → Pv i σ H → SqT K H a xs)
    (hs : ∀ i x T σ H, xs[i]? = some x → Pv i σ H → H T = none → g (.ref T) σ (upd H T (.tup [.int (i : Nat), x])) fun σ2 H2 => tb { D with nx := Pv (i + 1), ct := Pv (i + 1), bk := D.nx } σ2 H2) (hd : ∀ σ H, Pv xs.length σ H → D.nx σ H) : contF g tb D σ (IteT K a) H := by
  refine ⟨fun i m σ H => m = xs.length - i ∧ i ≤ xs.length ∧ Pv i σ H, ⟨xs.length, by simp, Nat.zero_le _, h0⟩, ?_⟩
  rintro i m σ H ⟨rfl, hi, p⟩
  have q := hl i σ H hi p
  by_cases hlt : i < xs.length
  · refine .inr ⟨⟨xs, xs[i], q, List.getElem?_eq_getElem hlt⟩, Pv (i + 1), fun σ' H' p' => ⟨xs.length - (i + 1), by omega, rfl, hlt, p'⟩, fun y H' hy => ?_⟩
    obtain ⟨T, x, rfl, hT, rfl, hx⟩ := hy
    exact hs i x T σ H (hx xs q) p hT
  · obtain rfl : i = xs.length := by omega
    exact .inl ⟨⟨xs, q, Nat.le_refl _⟩, hd σ H p⟩
theorem lcRng {n : Nat} (Pv : Nat → Addr → Hp → Prop) (h0 : ∀ D, H D = none → Pv 0 D (upd H D (.lst [])))
    (hs : ∀ i D H', H D = none → i < n → Pv i D H' → g (.int (0 + i)) (wipe σ vs) H' fun σ2 H2 => wipe σ2 vs = wipe σ vs ∧ tt σ2 H2 fun b H3 => if b = true then te σ2 H3 fun y H4 => ∃ acc, H4 D = some (.lst acc) ∧ acc.length < sizeLine ∧ Pv (i + 1) D (upd H4 D (.lst (acc ++ [y]))) else Pv (i + 1) D H3)
    (hd : ∀ D H', H D = none → Pv n D H' → Q (.ref D) H') : contL g tt te vs σ Q (Itr 0 n) H := fun D hD => lc_range (fun i H' => Pv i D H') (h0 D hD) (fun i H' hi p => hs i D H' hD hi p) fun H' p => hd D H' hD p
theorem lcLst {a : Addr} {xs : List V} (Pv : Nat → Addr → Hp → Prop) (h0 : ∀ D, H D = none → Pv 0 D (upd H D (.lst []))) (hl : ∀ i D H', H D = none → i ≤ xs.length → Pv i D H' → SqL K H' a xs)
    (hs : ∀ i x D H', H D = none → xs[i]? = some x → Pv i D H' → g x (wipe σ vs) H' fun σ2 H2 => wipe σ2 vs = wipe σ vs ∧ tt σ2 H2 fun b H3 => if b = true then te σ2 H3 fun y H4 => ∃ acc, H4 D = some (.lst acc) ∧ acc.length < sizeLine ∧ Pv (i + 1) D (upd H4 D (.lst (acc ++ [y]))) else Pv (i + 1) D H3)
    (hd : ∀ D H', H D = none → Pv xs.length D H' → Q (.ref D) H') : contL g tt te vs σ Q (Itl K a) H := fun D hD => lc_list (fun i H' => Pv i D H') (h0 D hD) (fun i H' hi p => hl i D H' hD hi p) (fun i x H' hx p => hs i x D H' hD hx p) fun H' p => hd D H' hD p
theorem lcTup {a : Addr} {xs : List V} (Pv : Nat → Addr → Hp → Prop) (h0 : ∀ D, H D = none → Pv 0 D (upd H D (.lst []))) (hl : ∀ i D H', H D = none → i ≤ xs.length → Pv i D H' → SqT K H' a xs)
    (hs : ∀ i x D H', H D = none → xs[i]? = some x → Pv i D H' → g x (wipe σ vs) H' fun σ2 H2 => wipe σ2 vs = wipe σ vs ∧ tt σ2 H2 fun b H3 => if b = true then te σ2 H3 fun y H4 => ∃ acc, H4 D = some (.lst acc) ∧ acc.length < sizeLine ∧ Pv (i + 1) D (upd H4 D (.lst (acc ++ [y]))) else Pv (i + 1) D H3)
    (hd : ∀ D H', H D = none → Pv xs.length D H' → Q (.ref D) H') : contL g tt te vs σ Q (Itt K a) H := fun D hD => lc_tup (fun i H' => Pv i D H') (h0 D hD) (fun i H' hi p => hl i D H' hD hi p) (fun i x H' hx p => hs i x D H' hD hx p) fun H' p => hd D H' hD p
end
/-! ### a list or a tuple: its length, a walk over it -/
section
variable {X : Cx}
def hLenB : List V → Hp → VK → Prop := fun xs H Q => ∃ p ys, xs = [.ref p] ∧ RowAt H p ys ∧ Q (.int ys.length) H
theorem callLenB : CallR X (.builtin "len") hLenB := CallR.imp call_len_seq fun _ _ _ ⟨p, ys, h1, h2, h3⟩ => ⟨p, ys, h1, h2.imp SqL.of SqT.of, h3⟩
def hTupB : List V → Hp → VK → Prop := fun xs H Q => ∃ p ys, xs = [.ref p] ∧ RowAt H p ys ∧ ∀ t H', Same H H' → (H t = none ∨ H t = some (.tup ys)) → H' t = some (.tup ys) → Q (.ref t) H'
theorem callTupB : CallR X (.type "tuple") hTupB := CallR.imp call_tuple_of fun _ H _ ⟨p, ys, h1, h2, h3⟩ => ⟨p, ys, h1, by
  rcases h2 with h2 | h2
  · exact .inl ⟨SqL.of h2, fun l hl => h3 l _ (same_new hl) (.inl hl) upd_same⟩
  · exact .inr ⟨SqT.of h2, h3 p H (Same.refl _) (.inr h2) h2⟩⟩
def hLstB : List V → Hp → VK → Prop := fun xs H Q => ∃ p ys, xs = [.ref p] ∧ RowAt H p ys ∧ ∀ t, H t = none → Q (.ref t) (upd H t (.lst ys))
theorem callLstB : CallR X (.type "list") hLstB := CallR.imp call_list_of fun _ H _ ⟨p, ys, h1, h2, h3⟩ => ⟨p, ys, h1, h2.imp SqL.of SqT.of, h3⟩
def iSeqB (K : PySem.W.Frag) (tl : TE) : TI := fun σ H R => tl σ H fun x H1 => ∃ a, x = .ref a ∧ ((∃ xs, SqL K H1 a xs ∧ R (Itl K a) H1) ∨ (∃ xs, SqT K H1 a xs ∧ R (Itt K a) H1))
theorem pi_seqB {tg l : Expr} {tl : TE} (hl : PE X l tl) : PI X tg l (iSeqB X.K tl) := by
  refine ⟨fun pins s σ H R I h => ?_⟩
  refine thn (hl.run pins s σ H _ I h) fun v s1 ⟨x, H1, I1, r1, a, e, q1⟩ => ?_
  subst e; cases r1
  have hb : ∀ b ∈ [s1.heap.objs.size], FpOk X pins H1 b := fun b hb => by
    rw [List.mem_singleton.mp hb]
    exact I1.fpOk (Nat.le_refl _) (I1.hok.fresh (Nat.le_refl _))
  rcases q1 with ⟨xs, hq, q⟩ | ⟨xs, hq, q⟩
  · obtain ⟨its, rv, p, hz⟩ := I1.list hq
    exact wpAny_pyIter_list p.isList ⟨s1.heap.objs.size, [s1.heap.objs.size], _, _, H1, rfl, I1.kept (t' := s1.toks) fun b o e => Heap.get?_push_of_some _ e, turn_list a _, ⟨_, Heap.get?_push_size _ rfl, rfl, rfl⟩, hb, q⟩
  · obtain ⟨its, rv, p, hz⟩ := I1.tuple hq
    exact wpAny_pyIter_tuple (show s1.heap.IsTuple a its.toArray from p) ⟨s1.heap.objs.size, [s1.heap.objs.size], _, _, H1, rfl, I1.kept (t' := s1.toks) fun b o e => Heap.get?_push_of_some _ e, turn_tuple a _, ⟨_, Heap.get?_push_size _ rfl, rfl, rfl⟩, hb, q⟩
/-- C(e, ..), what is raised wished for at the caller's slots -/
def tMakeS (C : Addr) (sp : Sp) (E : L2.St → XK) (t : TA) : TE := fun σ H Q => t σ H fun vs H1 => ∀ x dx, H1 x = none → H1 dx = none → dx ≠ x → sp (.ref x :: vs) (upd (upd H1 dx (.own x)) x (.ins C dx [])) (fun v H2 => v = .non ∧ Q (.ref x) H2) (E σ)
theorem pe_makeS {CX : CXT} {C f : Addr} {k : Nat} {fd : FuncData} {ps : List Str} {sp : Sp} {E : L2.St → XK} {x : Str} {p pos : Pos} {e : Expr} {es : List Expr} {t : TA} (M : Mk X.K C f) (F : FnOk X.prog X.w X.K X.mg X.base CX k f fd ps sp) (hr : Room (k + 1) X.A) (hg : Gl X x) (hm : X.mg x = some (.ref C)) (hb : Binds X.K fd ps []) (hx : ∀ σ, PassesAt CX X σ (E σ))
    (ha : PA X (e :: es) t) (hdb : (x == ("__debug__" : Str)) = false := by decide) (he : starEach (e :: es) X.env = (false, eval e X.env) :: starEach es X.env := by rfl) (hpl : (backTo pos (starEach es X.env)).any (·.1) = false := by rfl) :
    PE X (.Call (.Name x p) (e :: es) [] pos) (tMakeS C sp E t) := by
  refine ⟨fun pins s σ H Q I h => wpAny_Call_Name_kw (ld_glob I hg hm (PySem.W.callWith_K (h₀ := X.base) I.ok.mod.kin M.kp (thn (ha.run pos pins s σ H _ I h) fun us s1 ⟨vs, H1, I1, r, q⟩ => ⟨I1.kIn, ?_⟩) he hpl) hdb)⟩
  have hq := q (s1.heap.objs.size + 1) s1.heap.objs.size (I1.hok.fresh (Nat.le_succ _)) (I1.hok.fresh (Nat.le_refl _)) (Nat.ne_of_lt (Nat.lt_succ_self _))
  have I2 := Inv.made (C := C) I1
  have r2 : Vals (V.ref (s1.heap.objs.size + 1) :: vs) (Value.ref (s1.heap.objs.size + 1) :: us) := .cons rfl r
  have hl : (Value.ref (s1.heap.objs.size + 1) :: us).length = ps.length := by
    have e := r2.length
    rw [F.len _ _ _ _ hq] at e
    exact e.symm
  have hb2 := hb _ (Value.ref (s1.heap.objs.size + 1) :: us) I2.kIn (by rw [List.append_nil]; exact hl)
  rw [List.append_nil] at hb2
  refine wpAny_call (make_map (f := f) I1.kIn M.makes M.init (beq_iff_eq.mp M.fn) (codeAny_mono (F.run _ X.stack _ _ ⟨Value.ref (s1.heap.objs.size + 1) :: us, []⟩ (Value.ref (s1.heap.objs.size + 1) :: us) _ _ (E σ) (hr.make C us []) (I2.env0.make C us []) hb2 r2 hq) fun r s' hq' => ?_))
  cases r with
  | error er => exact hx σ pins _ _ er s' I2 hq'
  | ok fl =>
    cases fl with
    | ret u =>
      obtain ⟨v, H', I3, rv, ev, q3⟩ := I2.after hq'
      subst ev
      exact ⟨rv, V.ref (s1.heap.objs.size + 1), H', I3, rfl, q3⟩
    | next => exact False.elim hq'
    | brk => exact False.elim hq'
    | cont => exact False.elim hq'
end
end AK
set_option Elab.async false
set_option linter.all false
set_option maxRecDepth 100000
set_option maxHeartbeats 4000000
namespace AK
open PySem PySem.Spec PyProof.Rows L2
/-! ### exceptions -/
/-- what the written part says of an exception class of the program -/
structure ExcA (K : PySem.W.Frag) (C : Addr) : Prop where
  ga : PySem.W.findIn K (.ref C) "__getattribute__" = some (some (.builtin "BaseException.__getattribute__"))
  gg : PySem.W.findIn K (.ref C) "__getattr__" = some none
  ex : PySem.W.subIn K (.ref C) (.type "BaseException") = some true
  hd : PySem.W.hasDictIn K C = true
  hc : PySem.W.findIn K (.ref C) "__class__" = some (some (.builtin "object.__class__"))
  hn : PySem.W.specialIn K (.builtin "object.__class__") "__get__" = some (some (.builtin "getset_descriptor.__get__"))
  ht : PySem.W.takesIn K (.builtin "object.__class__") = some true
  hm : PySem.W.mroIn K C (.type "object") = some true
  ty : PySem.W.typeIn K (.ref C) = some (.type "type")
  kp : PySem.W.keepIn K (.ref C) = true
  su : PySem.W.subIn K (.ref C) (.ref C) = some true
theorem ExcA.excC {K : PySem.W.Frag} {C : Addr} (x : ExcA K C) : ExcC K C := ⟨x.ga, x.gg, x.ex, x.hd, x.hc, x.hn, x.ht, x.hm⟩
theorem ExcA.xf {K : PySem.W.Frag} {C : Addr} (x : ExcA K C) : XfC K C := ⟨x.ga, x.gg, x.ex, x.hd⟩
theorem ExcA.cl {K : PySem.W.Frag} {C : Addr} (x : ExcA K C) : (PySem.W.clsIn K C).isSome = true := by
  have h := x.hd
  unfold PySem.W.hasDictIn at h
  cases q : PySem.W.clsIn K C with
  | none => rw [q] at h; cases h
  | some c => rfl
theorem ExcA.one {K : PySem.W.Frag} {C : Addr} (x : ExcA K C) : PySem.W.exmOne K (.ref C) (.ref C) = some true := by
  unfold PySem.W.exmOne PySem.W.kitCls
  rw [if_pos (by rw [x.ex]; rfl)]
  dsimp only
  rw [if_pos (by rw [x.cl, x.ty]; rfl)]
  exact x.su
theorem ExcA.raises {X : Cx} {C : Addr} (x : ExcA X.K C) : Raises X (.ref C) := raises_own x.ex x.ty
/-- isinstance(e, c) in a suite, e with a dict of its own -/
def rIsD (K : PySem.W.Frag) (D a : Addr) (cls : Value) (d : Option Addr) : List V → Hp → VK → Prop := fun xs H Q => ∃ (c : V) (cv : Value) (b : Bool) (dd : Addr) (fs : List (Str × V)), xs = [.ref a, c] ∧ cls = .ref D ∧ ClsV c cv ∧ PySem.W.kitOne K (.ref D) cv = some b ∧ d = some dd ∧ H dd = some (.xd fs) ∧ Q (.bl b) H
theorem call_isD {X : Cx} {a D : Addr} {oe : Obj} {d : Option Addr} {cls : Value} {pn : List (Addr × Obj)} (C : ExcA X.K D) (hz : Zc cls d oe) (hf : ∃ vs, oe.data = .fields vs) : CallR (X.suite a ((a, oe) :: pn)) (.builtin "isinstance") (rIsD X.K D a cls d) := by
  intro pins s σ H xs us Q I r h
  obtain ⟨c, cv, b, dd, fs, rfl, ec, kc, e, ed, ea, q⟩ := h
  obtain ⟨u1, u2, rfl, r1, r2⟩ := vals2 r
  obtain rfl : u1 = Value.ref a := r1
  have e2 := kc.eq r2
  subst e2
  subst ec
  subst ed
  obtain ⟨ha, _⟩ := I.pin (a, oe) (List.mem_append_left _ List.mem_cons_self)
  obtain ⟨vs, hv⟩ := hf
  have hx : ObjOk X.prog X.w H s.heap dd (.xd fs) := I.hok dd _ ea
  obtain ⟨mA, hns, _⟩ := hx
  obtain ⟨od, ho, _⟩ := lookIn_ns hns
  have J : PySem.W.InstAt s.heap a oe D (some od) := ⟨ha, hz.1, by unfold PySem.W.notCls; rw [hv] <;> rfl, by rw [hz.2]; exact ho⟩
  exact PySem.W.kia_one (PySem.W.kitx_exc C.cl C.ga C.gg C.ex C.hc C.hn C.ht C.hm) I.kIn J e (fun z => nomatch z) fun tk => ⟨.bl b, H, I.tok tk, rfl, q⟩
/-- .. without one -/
def rIsN (K : PySem.W.Frag) (D a : Addr) (cls : Value) (d : Option Addr) : List V → Hp → VK → Prop := fun xs H Q => ∃ (c : V) (cv : Value) (b : Bool), xs = [.ref a, c] ∧ cls = .ref D ∧ d = none ∧ ClsV c cv ∧ PySem.W.kitOne K (.ref D) cv = some b ∧ Q (.bl b) H
theorem call_isN {X : Cx} {a D : Addr} {oe : Obj} {cls : Value} {d : Option Addr} {pn : List (Addr × Obj)} (C : ExcA X.K D) (hz : Zc cls d oe) (hf : ∃ vs, oe.data = .fields vs) :
    CallR (X.suite a ((a, oe) :: pn)) (.builtin "isinstance") (rIsN X.K D a cls d) := by
  intro pins s σ H xs us Q I r h
  obtain ⟨c, cv, b, e0, ec, ed, kc, e, q⟩ := h
  subst ec
  subst ed
  exact call_isE C.excC hz hf pins s σ H xs us Q I r ⟨c, cv, b, e0, fun u ru => kc.eq ru, e, q⟩
end AK
namespace AK
open PySem PySem.Spec PyProof.Rows L2
/-- a def whose code object stands at c -/
structure FunC (K : PySem.W.Frag) (x qual : Str) (st : Stmt) (f : Addr) (fd : FuncData) (c : Addr) : Prop where
  ex : ∃ (oc : Value) (od : Option Addr) (kV doc pm : Value) (an : Option Addr) (ct : Value) (osl : Array (Option Value)),
    fd = PySem.W.fnOf x qual (defArgs st) (defBody st) (defScope st) .none kV doc pm an (.ref c) ct ∧ K.lookup f = some ⟨oc, od, .func fd, osl⟩ ∧ PySem.W.codeIn K (.ref c) qual = true
theorem FunC.okC {P : Program} {w : World} {K : PySem.W.Frag} {mg : Str → Option Value} {base : Heap} {x qual : Str} {st : Stmt} {f c : Addr} {fd : FuncData} {N ps : List Str} {k : Nat} {sp : Sp} (F : FunC K x qual st f fd c) (S : FnScope N ps (defScope st))
    (hlen : ∀ vs H Q E, sp vs H Q E → vs.length = ps.length)
    (body : ∀ (A : Around) (outer : List Env) (s : Shared) (H : Hp) (vs : List V) (Q : VK) (E : XK), Room k (A.deeper (envOfC qual (defScope st) s.heap.objs.size f (.ref c))) → sp vs H Q E →
      ∃ t, PSs (cxOf (L2.CX P w) P w K mg base N qual (defScope st) f (.ref c) A outer s H E) (defBody st) t ∧ t { nx := fun _ H' => Q .non H', rt := Q } (start N vs) H) : FnOk P w K mg base (L2.CX P w) (k + 1) f fd ps sp := by
  obtain ⟨oc, od, kV, doc, pm, an, ct, osl, rfl, lk, hcd⟩ := F.ex
  exact fn_of lk hcd S hlen fun A outer s H vs Q E hr hsp => body A outer s H vs Q E hr hsp
end AK
set_option Elab.async false
set_option linter.all false
set_option maxRecDepth 100000
set_option maxHeartbeats 4000000
namespace AK
open PySem PySem.Spec PyProof.Rows L2
/-! ### texts -/
def tx (l : List Nat) : Str := ⟨l.toArray⟩
abbrev lt (z : Str) : List Nat := z.cps.toList
theorem lt_tx (l : List Nat) : lt (tx l) = l := rfl
theorem tx_lt (z : Str) : tx (lt z) = z := by
  obtain ⟨⟨l⟩⟩ := z
  rfl
theorem len_tx (l : List Nat) : (tx l).length = l.length := rfl
theorem len_lt (z : Str) : (lt z).length = z.length := by
  obtain ⟨⟨l⟩⟩ := z
  rfl
theorem tx_inj {l m : List Nat} (h : tx l = tx m) : l = m := by
  have e := congrArg lt h
  exact e
theorem cut_take (z : Str) (n : Nat) : cutS z none (some (n : Int)) = tx ((lt z).take n) := by
  unfold cutS tx
  have h0 : HT.sIx z.length 0 none = 0 := rfl
  have h1 : HT.sIx z.length z.length (some (n : Int)) = min n z.length := by
    unfold HT.sIx
    simp only
    split <;> omega
  rw [h0, h1, List.drop_zero, Nat.sub_zero]
  congr 2
  rw [← len_lt z]
  by_cases h : n ≤ (lt z).length
  · rw [Nat.min_eq_left h]
  · rw [Nat.min_eq_right (Nat.le_of_not_le h), List.take_of_length_le (Nat.le_refl _), List.take_of_length_le (Nat.le_of_not_le h)]
/-- the letters behind the sign c -/
def after (b : List Nat) (c : Nat) : List Nat := (b.dropWhile (fun x => decide (x ≠ c))).drop 1
/-- ascending, by the letters b -/
def asc : List Nat → List Nat → Bool
  | _, [] => true
  | b, c :: t => decide (c ∈ b) && asc (after b c) t
theorem asc_nil (b : List Nat) : asc b [] = true := by
  unfold asc
  rfl
theorem asc_cons (b : List Nat) (c : Nat) (t : List Nat) : asc b (c :: t) = (decide (c ∈ b) && asc (after b c) t) := by
  rw [asc]
theorem split_at {b : List Nat} {c : Nat} (h : c ∈ b) : ∃ p q, b = p ++ c :: q ∧ c ∉ p ∧ after b c = q := by
  induction b with
  | nil => cases h
  | cons x r ih =>
    by_cases e : x = c
    · subst e
      refine ⟨[], r, rfl, by simp, ?_⟩
      unfold after
      simp
    · have h' : c ∈ r := by
        rcases List.mem_cons.mp h with z | z
        · exact absurd z.symm e
        · exact z
      obtain ⟨p, q, e1, e2, e3⟩ := ih h'
      refine ⟨x :: p, q, by rw [e1]; rfl, ?_, ?_⟩
      · intro z
        rcases List.mem_cons.mp z with z | z
        · exact e z.symm
        · exact e2 z
      · unfold after at e3 ⊢
        rw [List.dropWhile_cons_of_pos (by simpa using e)]
        exact e3
theorem part_after {b : List Nat} {c : Nat} (h : c ∈ b) : (Txt.partition (tx b) (tx [c])).2.2 = tx (after b c) := by
  obtain ⟨p, q, e1, e2, e3⟩ := split_at h
  have e : tx b = tx p ++ tx [c] ++ tx q := by
    rw [e1]
    show tx (p ++ c :: q) = (⟨(p.toArray ++ [c].toArray) ++ q.toArray⟩ : Str)
    unfold tx
    congr 1
    simp
  rw [e, TL.partition_app (s := c) (S := []) rfl (by show c ∉ p; exact e2), e3]
theorem after_len (b : List Nat) (c : Nat) : (after b c).length ≤ b.length := by
  unfold after
  rw [List.length_drop]
  have := (List.dropWhile_sublist (l := b) (fun x => decide (x ≠ c))).length_le
  omega
/-! ### readings that ask H itself -/
section
variable {X : Cx}
def gTupH (n : Nat) (t : TGs) : TG := fun v σ H Q => ∃ a xs, v = .ref a ∧ H a = some (.tup xs) ∧ xs.length = n ∧ t xs σ H Q
theorem pg_tupH {es : List Expr} {k : Nat} {t : TGs} {n : Nat} (hc : X.calm = true) (h : PGs X es t)
    (hn : (assignEach es X.env).length = n := by rfl) (hst : (assignEach es X.env).findIdx? (·.1) = none := by rfl) : PG X (.Tuple es k pos) (gTupH n t) :=
  ⟨fun pins s σ H v u Q I r hw => (pg_tup hc h hn hst).run pins s σ H v u Q I r (by
    obtain ⟨a, xs, e1, e2, e3, e4⟩ := hw
    exact ⟨a, xs, e1, SqT.of e2, e3, e4⟩)⟩
/-- xs[i] of a list or a tuple -/
def hIxB : R2 := fun x y H Q => ∃ p xs i v, x = .ref p ∧ y = .int i ∧ RowAt H p xs ∧ atI xs i = some v ∧ Q v H
theorem ixHB : IxR X hIxB := by
  intro ve se pins s σ H x y v u Q I rx ry ⟨p, xs, i, w, h1, h2, h3, h4, h5⟩
  rcases h3 with h3 | h3
  · exact ixH ve se pins s σ H x y v u Q I rx ry ⟨p, xs, i, w, h1, h2, h3, h4, h5⟩
  · exact ixHT ve se pins s σ H x y v u Q I rx ry ⟨p, xs, i, w, h1, h2, h3, h4, h5⟩
end
theorem free_no {l : List (Str × NameKind)} (h : l.all (fun y => !decide (y.2 = .free)) = true) : ∀ y ∈ l, y.2 = .free → False := fun y hy e => by
  have z := List.all_eq_true.mp h y hy
  rw [e] at z
  simp at z
theorem sizeLe {n : Nat} (h : n ≤ 1000) : n ≤ sizeLine := Nat.le_of_lt (small1000 h)
theorem gen_same {H H' : Hp} {d : Addr} {o : HO} (n : H d = none) (g : upd H d o = H') : Same H H' := by
  rw [← g]
  exact same_new n
theorem gen_at {H H' : Hp} {d : Addr} {o : HO} (g : upd H d o = H') : H' d = some o := by
  rw [← g]
  exact upd_same
end AK
set_option Elab.async false
set_option linter.all false
set_option maxRecDepth 100000
set_option maxHeartbeats 4000000
namespace AK
open PySem PySem.Spec PyProof.Rows L2
theorem fun_of {K : PySem.W.Frag} {x qual : Str} {st : Stmt} {f : Addr} {fd : FuncData} (F : FunD K x qual (defArgs st) (defBody st) (defScope st) [] [] f fd) : Fun K x qual st f fd := by
  obtain ⟨oc, od, dV, kV, doc, pm, an, cdv, ct, osl, e, lk, hc, hd, _⟩ := F.ex
  rcases hd with ⟨_, rfl⟩ | ⟨z, _⟩
  · exact ⟨⟨oc, od, kV, doc, pm, an, cdv, ct, osl, e, lk, hc⟩, F.kp⟩
  · exact absurd rfl z
theorem funC_of {K : PySem.W.Frag} {x qual : Str} {st : Stmt} {p : Str × Option Str} {fd : FuncData} (F : FunD K x qual (defArgs st) (defBody st) (defScope st) [] [] (He.fAd K p) fd) : FunC K x qual st (He.fAd K p) fd (He.cT K p).1 := by
  obtain ⟨oc, od, kV, doc, pm, an, cdv, ct, osl, e, lk, hc⟩ := (fun_of F).ex
  obtain ⟨c, rfl⟩ := He.codeIn_ref hc
  have z : He.codeOf K p = c := He.codeOf_eq lk (by rw [e])
  rw [show (He.cT K p).1 = c from z]
  exact ⟨oc, od, kV, doc, pm, an, ct, osl, e, lk, hc⟩
/-- the facts of an exception class, asked -/
def excB (K : PySem.W.Frag) (C : Addr) : Bool :=
  He.eqO (PySem.W.findIn K (.ref C) "__getattribute__") (some (some (.builtin "BaseException.__getattribute__"))) && (He.eqO (PySem.W.findIn K (.ref C) "__getattr__") (some none) && (decide (PySem.W.subIn K (.ref C) (.type "BaseException") = some true) && (PySem.W.hasDictIn K C &&
  (He.eqO (PySem.W.findIn K (.ref C) "__class__") (some (some (.builtin "object.__class__"))) && (He.eqO (PySem.W.specialIn K (.builtin "object.__class__") "__get__") (some (some (.builtin "getset_descriptor.__get__"))) && (decide (PySem.W.takesIn K (.builtin "object.__class__") = some true) &&
  (decide (PySem.W.mroIn K C (.type "object") = some true) && (decide (PySem.W.typeIn K (.ref C) = some (.type "type")) && (PySem.W.keepIn K (.ref C) && decide (PySem.W.subIn K (.ref C) (.ref C) = some true))))))))))
theorem excB_ok {K : PySem.W.Frag} {C : Addr} (h : excB K C = true) : ExcA K C := by
  obtain ⟨h1, h⟩ := He.ba h
  obtain ⟨h2, h⟩ := He.ba h
  obtain ⟨h3, h⟩ := He.ba h
  obtain ⟨h4, h⟩ := He.ba h
  obtain ⟨h5, h⟩ := He.ba h
  obtain ⟨h6, h⟩ := He.ba h
  obtain ⟨h7, h⟩ := He.ba h
  obtain ⟨h8, h⟩ := He.ba h
  obtain ⟨h9, h⟩ := He.ba h
  obtain ⟨h10, h11⟩ := He.ba h
  exact ⟨He.eqO_ok h1, He.eqO_ok h2, of_decide_eq_true h3, h4, He.eqO_ok h5, He.eqO_ok h6, of_decide_eq_true h7, of_decide_eq_true h8, of_decide_eq_true h9, h10, of_decide_eq_true h11⟩
/-- a class over ValueError with an __init__ of its own -/
def ownB (C : Addr) : Obj → Bool
  | ⟨.type t, _, .cls cd, sl⟩ => decide (t = "type") && (match cd.mro, sl.toList with
    | .ref D :: bm, [_, _, _, _, some (.builtin n), _] => decide (D = C) && (decide (n = "ValueError.__new__") && (!cd.hasDel && (cd.hasDict && PySem.HandSPX.refsVE bm)))
    | _, _ => false)
  | _ => false
theorem ownB_ok {C : Addr} : ∀ {o : Obj}, ownB C o = true → ∃ nm q N bs bm sn sub ab col dd k0 k1 k2 k3 k5, o = excClassObj nm q C N bs bm true sn sub ab col dd k0 k1 k2 k3 k5 "ValueError.__new__" ∧ PySem.HandSPX.refsVE bm = true := by
  intro o h
  unfold ownB at h
  split at h
  · rename_i t dd cd sl
    obtain ⟨h0, h⟩ := He.ba h
    have h0 := of_decide_eq_true h0
    subst h0
    split at h
    · rename_i D bm k0 k1 k2 k3 n k5 hm hs
      try obtain ⟨_, h⟩ := He.ba h
      obtain ⟨h1, h⟩ := He.ba h
      obtain ⟨h2, h⟩ := He.ba h
      obtain ⟨h3, h⟩ := He.ba h
      obtain ⟨h4, h5⟩ := He.ba h
      have h1 := of_decide_eq_true h1
      have h2 := of_decide_eq_true h2
      subst h1 h2
      obtain ⟨nm, bs, mro, ns, qn, hd, sn, sub, ab, col, del⟩ := cd
      dsimp only at hm h3 h4
      subst hm
      have hdel : del = false := by
        cases del with
        | false => rfl
        | true => cases h3
      subst hdel
      have hhd : hd = true := h4
      subst hhd
      have hsl : sl = #[k0, k1, k2, k3, some (.builtin "ValueError.__new__"), k5] := by
        obtain ⟨l⟩ := sl
        simp only at hs
        rw [hs]
      subst hsl
      exact ⟨nm, qn, ns, bs, bm, sn, sub, ab, col, dd, k0, k1, k2, k3, k5, rfl, h5⟩
    · first | (cases h) | (obtain ⟨_, h⟩ := He.ba h; cases h)
  · cases h
def oexB (K : PySem.W.Frag) (C : Addr) : Bool := (match K.lookup C with
  | some o => ownB C o
  | none => false) && He.eqO (PySem.W.findIn K (.ref C) "__setattr__") (some (some (.builtin "object.__setattr__")))
theorem oexB_ok {K : PySem.W.Frag} {C : Addr} (h : oexB K C = true) (x : ExcA K C) : OexC K C := by
  obtain ⟨h1, h2⟩ := He.ba h
  cases e : K.lookup C with
  | none =>
    rw [e] at h1
    cases h1
  | some o =>
    rw [e] at h1
    obtain ⟨nm, q, N, bs, bm, sn, sub, ab, col, dd, k0, k1, k2, k3, k5, rfl, hb⟩ := ownB_ok h1
    exact ⟨⟨nm, q, N, bs, bm, sn, sub, ab, col, dd, k0, k1, k2, k3, k5, e, hb⟩, He.eqO_ok h2, x.ex, x.ty, x.kp⟩
end AK
set_option Elab.async false
set_option linter.all false
set_option maxRecDepth 100000
set_option maxHeartbeats 4000000
namespace AK
open PySem PySem.Spec PyProof.Rows L2
def topS (i : Nat) : Stmt := PySem.Challenge.pw_allknow_k01_networks.main.body.getD i (.Pass ⟨0, 0, 0, 0⟩)
abbrev s_BadNetwork_init : Stmt := inClass (topS 9) 0
abbrev sc_BadNetwork_init_N : List Str := ["self", "part", "number", "reason"]
theorem sc_BadNetwork_init : FnScope sc_BadNetwork_init_N ["self", "part", "number", "reason"] (defScope s_BadNetwork_init) := ⟨rfl, rfl, rfl, by decide +kernel, rfl, by decide +kernel, by decide +kernel⟩
abbrev s_Network_init : Stmt := inClass (topS 11) 0
abbrev sc_Network_init_N : List Str := ["self", "variables", "nodes", "links"]
theorem sc_Network_init : FnScope sc_Network_init_N ["self", "variables", "nodes", "links"] (defScope s_Network_init) := ⟨rfl, rfl, rfl, by decide +kernel, rfl, by decide +kernel, by decide +kernel⟩
abbrev s_Network_node_letters : Stmt := inClass (topS 11) 1
abbrev sc_Network_node_letters_N : List Str := ["self"]
theorem sc_Network_node_letters : FnScope sc_Network_node_letters_N ["self"] (defScope s_Network_node_letters) := ⟨rfl, rfl, rfl, by decide +kernel, rfl, by decide +kernel, by decide +kernel⟩
abbrev s_Network_variable_letters : Stmt := inClass (topS 11) 2
abbrev sc_Network_variable_letters_N : List Str := ["self"]
theorem sc_Network_variable_letters : FnScope sc_Network_variable_letters_N ["self"] (defScope s_Network_variable_letters) := ⟨rfl, rfl, rfl, by decide +kernel, rfl, by decide +kernel, by decide +kernel⟩
abbrev s_Network_messages : Stmt := inClass (topS 11) 3
abbrev sc_Network_messages_N : List Str := ["self", "node"]
theorem sc_Network_messages : FnScope sc_Network_messages_N ["self", "node"] (defScope s_Network_messages) := ⟨rfl, rfl, rfl, by decide +kernel, rfl, by decide +kernel, by decide +kernel⟩
abbrev s_Network_all_messages : Stmt := inClass (topS 11) 4
abbrev sc_Network_all_messages_N : List Str := ["self", "messages", "message"]
theorem sc_Network_all_messages : FnScope sc_Network_all_messages_N ["self"] (defScope s_Network_all_messages) := ⟨rfl, rfl, rfl, by decide +kernel, rfl, by decide +kernel, by decide +kernel⟩
abbrev s_is_message : Stmt := topS 12
abbrev sc_is_message_N : List Str := ["variables", "text"]
theorem sc_is_message : FnScope sc_is_message_N ["variables", "text"] (defScope s_is_message) := ⟨rfl, rfl, rfl, by decide +kernel, rfl, by decide +kernel, by decide +kernel⟩
abbrev s_is_link : Stmt := topS 13
abbrev sc_is_link_N : List Str := ["nodes", "text", "letters"]
theorem sc_is_link : FnScope sc_is_link_N ["nodes", "text"] (defScope s_is_link) := ⟨rfl, rfl, rfl, by decide +kernel, rfl, by decide +kernel, by decide +kernel⟩
abbrev s_node_number : Stmt := topS 14
abbrev sc_node_number_N : List Str := ["network", "node", "letters"]
theorem sc_node_number : FnScope sc_node_number_N ["network", "node"] (defScope s_node_number) := ⟨rfl, rfl, rfl, by decide +kernel, rfl, by decide +kernel, by decide +kernel⟩
abbrev s_first_letters : Stmt := topS 15
abbrev sc_first_letters_N : List Str := ["letters", "count"]
theorem sc_first_letters : FnScope sc_first_letters_N ["letters", "count"] (defScope s_first_letters) := ⟨rfl, rfl, rfl, by decide +kernel, rfl, by decide +kernel, by decide +kernel⟩
abbrev s_is_ascending : Stmt := topS 16
abbrev sc_is_ascending_N : List Str := ["letters", "text", "behind", "letter"]
theorem sc_is_ascending : FnScope sc_is_ascending_N ["letters", "text"] (defScope s_is_ascending) := ⟨rfl, rfl, rfl, by decide +kernel, rfl, by decide +kernel, by decide +kernel⟩
abbrev s_check_variables : Stmt := topS 17
abbrev sc_check_variables_N : List Str := ["variables"]
theorem sc_check_variables : FnScope sc_check_variables_N ["variables"] (defScope s_check_variables) := ⟨rfl, rfl, rfl, by decide +kernel, rfl, by decide +kernel, by decide +kernel⟩
abbrev s_check_nodes : Stmt := topS 18
abbrev sc_check_nodes_N : List Str := ["variables", "nodes", "number", "messages", "text"]
theorem sc_check_nodes : FnScope sc_check_nodes_N ["variables", "nodes"] (defScope s_check_nodes) := ⟨rfl, rfl, rfl, by decide +kernel, rfl, by decide +kernel, by decide +kernel⟩
abbrev s_check_links : Stmt := topS 19
abbrev sc_check_links_N : List Str := ["nodes", "links", "number", "text"]
theorem sc_check_links : FnScope sc_check_links_N ["nodes", "links"] (defScope s_check_links) := ⟨rfl, rfl, rfl, by decide +kernel, rfl, by decide +kernel, by decide +kernel⟩
abbrev s_law_pool : Stmt := topS 21
abbrev sc_law_pool_N : List Str := ["script", "cell"]
theorem sc_law_pool : FnScope sc_law_pool_N ["script"] (defScope s_law_pool) := ⟨rfl, rfl, rfl, by decide +kernel, rfl, by decide +kernel, by decide +kernel⟩
abbrev s_law_take : Stmt := topS 22
abbrev sc_law_take_N : List Str := ["pool", "many", "digit", "cell", "mixed"]
theorem sc_law_take : FnScope sc_law_take_N ["pool", "many"] (defScope s_law_take) := ⟨rfl, rfl, rfl, by decide +kernel, rfl, by decide +kernel, by decide +kernel⟩
abbrev s_law_message : Stmt := topS 23
abbrev sc_law_message_N : List Str := ["pool", "variables", "number", "text", "k"]
theorem sc_law_message : FnScope sc_law_message_N ["pool", "variables"] (defScope s_law_message) := ⟨rfl, rfl, rfl, by decide +kernel, rfl, by decide +kernel, by decide +kernel⟩
abbrev s_law_rows : Stmt := topS 24
abbrev sc_law_rows_N : List Str := ["pool", "high", "most", "variables", "nodes", "k", "links", "start", "stop", "j"]
theorem sc_law_rows : FnScope sc_law_rows_N ["pool", "high", "most"] (defScope s_law_rows) := ⟨rfl, rfl, rfl, by decide +kernel, rfl, by decide +kernel, by decide +kernel⟩
abbrev s_law_is_shown : Stmt := topS 25
abbrev sc_law_is_shown_N : List Str := ["network", "rows", "due", "row"]
theorem sc_law_is_shown : FnScope sc_law_is_shown_N ["network", "rows"] (defScope s_law_is_shown) := ⟨rfl, rfl, rfl, by decide +kernel, rfl, by decide +kernel, by decide +kernel⟩
abbrev s_law_is_integer : Stmt := topS 26
abbrev sc_law_is_integer_N : List Str := ["actual"]
theorem sc_law_is_integer : FnScope sc_law_is_integer_N ["actual"] (defScope s_law_is_integer) := ⟨rfl, rfl, rfl, by decide +kernel, rfl, by decide +kernel, by decide +kernel⟩
abbrev s_law_same : Stmt := topS 27
abbrev sc_law_same_N : List Str := ["actual", "due", "k"]
theorem sc_law_same : FnScope sc_law_same_N ["actual", "due"] (defScope s_law_same) := ⟨rfl, rfl, rfl, by decide +kernel, rfl, by decide +kernel, by decide +kernel⟩
abbrev s_law_told : Stmt := topS 28
abbrev sc_law_told_N : List Str := ["variables", "nodes", "links", "e"]
theorem sc_law_told : FnScope sc_law_told_N ["variables", "nodes", "links"] (defScope s_law_told) := ⟨rfl, rfl, rfl, by decide +kernel, rfl, by decide +kernel, by decide +kernel⟩
abbrev s_law_text : Stmt := topS 29
abbrev sc_law_text_N : List Str := ["pool", "letters", "k"]
theorem sc_law_text : FnScope sc_law_text_N ["pool", "letters"] (defScope s_law_text) := ⟨rfl, rfl, rfl, by decide +kernel, rfl, by decide +kernel, by decide +kernel⟩
abbrev s_law_is_message : Stmt := topS 30
abbrev sc_law_is_message_N : List Str := ["variables", "text", "letters", "letter", "k"]
theorem sc_law_is_message : FnScope sc_law_is_message_N ["variables", "text"] (defScope s_law_is_message) := ⟨rfl, rfl, rfl, by decide +kernel, rfl, by decide +kernel, by decide +kernel⟩
abbrev s_law_is_link : Stmt := topS 31
abbrev sc_law_is_link_N : List Str := ["nodes", "text", "letters"]
theorem sc_law_is_link : FnScope sc_law_is_link_N ["nodes", "text"] (defScope s_law_is_link) := ⟨rfl, rfl, rfl, by decide +kernel, rfl, by decide +kernel, by decide +kernel⟩
abbrev s_law_number : Stmt := topS 32
abbrev sc_law_number_N : List Str := ["network", "text", "e"]
theorem sc_law_number : FnScope sc_law_number_N ["network", "text"] (defScope s_law_number) := ⟨rfl, rfl, rfl, by decide +kernel, rfl, by decide +kernel, by decide +kernel⟩
abbrev s_law_is_refused : Stmt := topS 33
abbrev sc_law_is_refused_N : List Str := ["pool", "rows", "variables", "nodes", "links", "kind", "wrong", "at", "text", "spot", "due"]
theorem sc_law_is_refused : FnScope sc_law_is_refused_N ["pool", "rows"] (defScope s_law_is_refused) := ⟨rfl, rfl, rfl, by decide +kernel, rfl, by decide +kernel, by decide +kernel⟩
abbrev s_law : Stmt := topS 34
abbrev sc_law_N : List Str := ["script", "pool", "rows", "variables", "nodes", "links", "passed", "handed", "network", "row", "k", "turn", "text", "due"]
theorem sc_law : FnScope sc_law_N ["script"] (defScope s_law) := ⟨rfl, rfl, rfl, by decide +kernel, rfl, by decide +kernel, by decide +kernel⟩
structure Ads where
  a_BadNetwork_init : Addr
  d_BadNetwork_init : FuncData
  a_Network_init : Addr
  d_Network_init : FuncData
  cG_Network_init : Addr
  tG_Network_init : Addr
  a_Network_node_letters : Addr
  d_Network_node_letters : FuncData
  a_Network_variable_letters : Addr
  d_Network_variable_letters : FuncData
  a_Network_messages : Addr
  d_Network_messages : FuncData
  a_Network_all_messages : Addr
  d_Network_all_messages : FuncData
  a_is_message : Addr
  d_is_message : FuncData
  a_is_link : Addr
  d_is_link : FuncData
  a_node_number : Addr
  d_node_number : FuncData
  a_first_letters : Addr
  d_first_letters : FuncData
  a_is_ascending : Addr
  d_is_ascending : FuncData
  a_check_variables : Addr
  d_check_variables : FuncData
  a_check_nodes : Addr
  d_check_nodes : FuncData
  a_check_links : Addr
  d_check_links : FuncData
  a_law_pool : Addr
  d_law_pool : FuncData
  a_law_take : Addr
  d_law_take : FuncData
  a_law_message : Addr
  d_law_message : FuncData
  a_law_rows : Addr
  d_law_rows : FuncData
  a_law_is_shown : Addr
  d_law_is_shown : FuncData
  a_law_is_integer : Addr
  d_law_is_integer : FuncData
  a_law_same : Addr
  d_law_same : FuncData
  a_law_told : Addr
  d_law_told : FuncData
  a_law_text : Addr
  d_law_text : FuncData
  a_law_is_message : Addr
  d_law_is_message : FuncData
  a_law_is_link : Addr
  d_law_is_link : FuncData
  a_law_number : Addr
  d_law_number : FuncData
  a_law_is_refused : Addr
  d_law_is_refused : FuncData
  a_law : Addr
  d_law : FuncData
  c_Network : Addr
  c_KnowError : Addr
  c_BadNetwork : Addr
  c_NoNode : Addr
  t_VARIABLE_LETTERS : Tok
  t_NODE_LETTERS : Tok
  t_MOST_VARIABLES : Tok
  t_MOST_NODES : Tok
  t_MOST_MESSAGES : Tok
  t_MOST_LINKS : Tok
structure Txt (K : PySem.W.Frag) (mg : Str → Option Value) (a : Ads) : Prop where
  F_BadNetwork_init : Fun K "__init__" "BadNetwork.__init__" s_BadNetwork_init a.a_BadNetwork_init a.d_BadNetwork_init
  b_BadNetwork_init : Binds K a.d_BadNetwork_init ["self", "part", "number", "reason"] []
  I_BadNetwork_init : PySem.W.findIn K (.ref a.c_BadNetwork) "__init__" = some (some (.ref a.a_BadNetwork_init))
  T_BadNetwork_init : PySem.W.typeIn K (.ref a.a_BadNetwork_init) = some (.type "function")
  F_Network_init : Fun K "__init__" "Network.__init__" s_Network_init a.a_Network_init a.d_Network_init
  b_Network_init : Binds K a.d_Network_init ["self", "variables", "nodes", "links"] []
  FC_Network_init : FunC K "__init__" "Network.__init__" s_Network_init a.a_Network_init a.d_Network_init a.cG_Network_init
  K_Network : Mk K a.c_Network a.a_Network_init
  F_Network_node_letters : Fun K "node_letters" "Network.node_letters" s_Network_node_letters a.a_Network_node_letters a.d_Network_node_letters
  b_Network_node_letters : Binds K a.d_Network_node_letters ["self"] []
  M_Network_node_letters : Meth K a.c_Network "node_letters" a.a_Network_node_letters
  F_Network_variable_letters : Fun K "variable_letters" "Network.variable_letters" s_Network_variable_letters a.a_Network_variable_letters a.d_Network_variable_letters
  b_Network_variable_letters : Binds K a.d_Network_variable_letters ["self"] []
  M_Network_variable_letters : Meth K a.c_Network "variable_letters" a.a_Network_variable_letters
  F_Network_messages : Fun K "messages" "Network.messages" s_Network_messages a.a_Network_messages a.d_Network_messages
  b_Network_messages : Binds K a.d_Network_messages ["self", "node"] []
  M_Network_messages : Meth K a.c_Network "messages" a.a_Network_messages
  F_Network_all_messages : Fun K "all_messages" "Network.all_messages" s_Network_all_messages a.a_Network_all_messages a.d_Network_all_messages
  b_Network_all_messages : Binds K a.d_Network_all_messages ["self"] []
  M_Network_all_messages : Meth K a.c_Network "all_messages" a.a_Network_all_messages
  F_is_message : Fun K "is_message" "is_message" s_is_message a.a_is_message a.d_is_message
  b_is_message : Binds K a.d_is_message ["variables", "text"] []
  g_is_message : mg "is_message" = some (.ref a.a_is_message)
  F_is_link : Fun K "is_link" "is_link" s_is_link a.a_is_link a.d_is_link
  b_is_link : Binds K a.d_is_link ["nodes", "text"] []
  g_is_link : mg "is_link" = some (.ref a.a_is_link)
  F_node_number : Fun K "node_number" "node_number" s_node_number a.a_node_number a.d_node_number
  b_node_number : Binds K a.d_node_number ["network", "node"] []
  g_node_number : mg "node_number" = some (.ref a.a_node_number)
  F_first_letters : Fun K "first_letters" "first_letters" s_first_letters a.a_first_letters a.d_first_letters
  b_first_letters : Binds K a.d_first_letters ["letters", "count"] []
  g_first_letters : mg "first_letters" = some (.ref a.a_first_letters)
  F_is_ascending : Fun K "is_ascending" "is_ascending" s_is_ascending a.a_is_ascending a.d_is_ascending
  b_is_ascending : Binds K a.d_is_ascending ["letters", "text"] []
  g_is_ascending : mg "is_ascending" = some (.ref a.a_is_ascending)
  F_check_variables : Fun K "_check_variables" "_check_variables" s_check_variables a.a_check_variables a.d_check_variables
  b_check_variables : Binds K a.d_check_variables ["variables"] []
  g_check_variables : mg "_check_variables" = some (.ref a.a_check_variables)
  F_check_nodes : Fun K "_check_nodes" "_check_nodes" s_check_nodes a.a_check_nodes a.d_check_nodes
  b_check_nodes : Binds K a.d_check_nodes ["variables", "nodes"] []
  g_check_nodes : mg "_check_nodes" = some (.ref a.a_check_nodes)
  F_check_links : Fun K "_check_links" "_check_links" s_check_links a.a_check_links a.d_check_links
  b_check_links : Binds K a.d_check_links ["nodes", "links"] []
  g_check_links : mg "_check_links" = some (.ref a.a_check_links)
  F_law_pool : Fun K "_law_pool" "_law_pool" s_law_pool a.a_law_pool a.d_law_pool
  b_law_pool : Binds K a.d_law_pool ["script"] []
  g_law_pool : mg "_law_pool" = some (.ref a.a_law_pool)
  F_law_take : Fun K "_law_take" "_law_take" s_law_take a.a_law_take a.d_law_take
  b_law_take : Binds K a.d_law_take ["pool", "many"] []
  g_law_take : mg "_law_take" = some (.ref a.a_law_take)
  F_law_message : Fun K "_law_message" "_law_message" s_law_message a.a_law_message a.d_law_message
  b_law_message : Binds K a.d_law_message ["pool", "variables"] []
  g_law_message : mg "_law_message" = some (.ref a.a_law_message)
  F_law_rows : Fun K "_law_rows" "_law_rows" s_law_rows a.a_law_rows a.d_law_rows
  b_law_rows : Binds K a.d_law_rows ["pool", "high", "most"] []
  g_law_rows : mg "_law_rows" = some (.ref a.a_law_rows)
  F_law_is_shown : Fun K "_law_is_shown" "_law_is_shown" s_law_is_shown a.a_law_is_shown a.d_law_is_shown
  b_law_is_shown : Binds K a.d_law_is_shown ["network", "rows"] []
  g_law_is_shown : mg "_law_is_shown" = some (.ref a.a_law_is_shown)
  F_law_is_integer : Fun K "_law_is_integer" "_law_is_integer" s_law_is_integer a.a_law_is_integer a.d_law_is_integer
  b_law_is_integer : Binds K a.d_law_is_integer ["actual"] []
  g_law_is_integer : mg "_law_is_integer" = some (.ref a.a_law_is_integer)
  F_law_same : Fun K "_law_same" "_law_same" s_law_same a.a_law_same a.d_law_same
  b_law_same : Binds K a.d_law_same ["actual", "due"] []
  g_law_same : mg "_law_same" = some (.ref a.a_law_same)
  F_law_told : Fun K "_law_told" "_law_told" s_law_told a.a_law_told a.d_law_told
  b_law_told : Binds K a.d_law_told ["variables", "nodes", "links"] []
  g_law_told : mg "_law_told" = some (.ref a.a_law_told)
  F_law_text : Fun K "_law_text" "_law_text" s_law_text a.a_law_text a.d_law_text
  b_law_text : Binds K a.d_law_text ["pool", "letters"] []
  g_law_text : mg "_law_text" = some (.ref a.a_law_text)
  F_law_is_message : Fun K "_law_is_message" "_law_is_message" s_law_is_message a.a_law_is_message a.d_law_is_message
  b_law_is_message : Binds K a.d_law_is_message ["variables", "text"] []
  g_law_is_message : mg "_law_is_message" = some (.ref a.a_law_is_message)
  F_law_is_link : Fun K "_law_is_link" "_law_is_link" s_law_is_link a.a_law_is_link a.d_law_is_link
  b_law_is_link : Binds K a.d_law_is_link ["nodes", "text"] []
  g_law_is_link : mg "_law_is_link" = some (.ref a.a_law_is_link)
  F_law_number : Fun K "_law_number" "_law_number" s_law_number a.a_law_number a.d_law_number
  b_law_number : Binds K a.d_law_number ["network", "text"] []
  g_law_number : mg "_law_number" = some (.ref a.a_law_number)
  F_law_is_refused : Fun K "_law_is_refused" "_law_is_refused" s_law_is_refused a.a_law_is_refused a.d_law_is_refused
  b_law_is_refused : Binds K a.d_law_is_refused ["pool", "rows"] []
  g_law_is_refused : mg "_law_is_refused" = some (.ref a.a_law_is_refused)
  F_law : Fun K "law" "law" s_law a.a_law a.d_law
  b_law : Binds K a.d_law ["script"] []
  B_law : ∀ (s : Shared) (u : Value), BindsTo s a.d_law ⟨[u], []⟩ [("script", u)]
  g_law : mg "law" = some (.ref a.a_law)
  C_Network : Cls K a.c_Network
  g_Network : mg "Network" = some (.ref a.c_Network)
  n_Network_variables : NoAttr K a.c_Network "variables"
  n_Network_nodes : NoAttr K a.c_Network "nodes"
  n_Network_links : NoAttr K a.c_Network "links"
  g_KnowError : mg "KnowError" = some (.ref a.c_KnowError)
  g_BadNetwork : mg "BadNetwork" = some (.ref a.c_BadNetwork)
  X_BadNetwork : ExcA K a.c_BadNetwork
  i_BadNetwork_KnowError : PySem.W.kitOne K (.ref a.c_BadNetwork) (.ref a.c_KnowError) = some true
  i_BadNetwork_ValueError : PySem.W.kitOne K (.ref a.c_BadNetwork) (.type "ValueError") = some true
  O_BadNetwork : OexC K a.c_BadNetwork
  n_BadNetwork_part : PySem.W.findIn K (.ref a.c_BadNetwork) "part" = some none
  n_BadNetwork_number : PySem.W.findIn K (.ref a.c_BadNetwork) "number" = some none
  n_BadNetwork_reason : PySem.W.findIn K (.ref a.c_BadNetwork) "reason" = some none
  g_NoNode : mg "NoNode" = some (.ref a.c_NoNode)
  X_NoNode : ExcA K a.c_NoNode
  i_NoNode_KnowError : PySem.W.kitOne K (.ref a.c_NoNode) (.ref a.c_KnowError) = some true
  N_NoNode : PySem.W.excIn K a.c_NoNode [.type "ValueError", .type "Exception", .type "BaseException", .type "object"] "ValueError.__new__" = true
  m_VARIABLE_LETTERS : mg "VARIABLE_LETTERS" = some (.str "abcdefghijklmnopqrstuvwxyz" a.t_VARIABLE_LETTERS)
  m_NODE_LETTERS : mg "NODE_LETTERS" = some (.str "ABCDEFGHIJKLMNOPQRSTUVWXYZ" a.t_NODE_LETTERS)
  m_MOST_VARIABLES : mg "MOST_VARIABLES" = some (.int 6 a.t_MOST_VARIABLES)
  m_MOST_NODES : mg "MOST_NODES" = some (.int 6 a.t_MOST_NODES)
  m_MOST_MESSAGES : mg "MOST_MESSAGES" = some (.int 4 a.t_MOST_MESSAGES)
  m_MOST_LINKS : mg "MOST_LINKS" = some (.int 16 a.t_MOST_LINKS)
  z_len : mg "len" = none
  z_int : mg "int" = none
  z_max : mg "max" = none
  z_range : mg "range" = none
  z_tuple : mg "tuple" = none
  z_list : mg "list" = none
  z_isinstance : mg "isinstance" = none
  z_enumerate : mg "enumerate" = none
  z_all : mg "all" = none
  z_bool : mg "bool" = none
  z_str : mg "str" = none
  z_ValueError : mg "ValueError" = none
end AK
set_option Elab.async false
set_option linter.all false
set_option maxRecDepth 100000
set_option maxHeartbeats 4000000
namespace AK
open PySem PySem.Spec PyProof.Rows L2
def AV : List Nat := lt ("abcdefghijklmnopqrstuvwxyz" : Str)
def AN : List Nat := lt ("ABCDEFGHIJKLMNOPQRSTUVWXYZ" : Str)
def isMsg (n : Int) (x : Str) : Bool := !decide (x = ("" : Str)) && asc (AV.take n.toNat) (lt x)
def isLnk (n : Int) : List Nat → Bool
  | [c, d] => !decide (c = d) && (decide (c ∈ AN.take n.toNat) && decide (d ∈ AN.take n.toNat))
  | _ => false
section
variable {P : Program} {w : World} {K : PySem.W.Frag} {mg : Str → Option Value} {base : Heap} {a : Ads}
def spFirst : Sp := fun vs H Q _ => ∃ (z : Str) (n : Int), vs = [.str z, .int n] ∧ z.length ≤ 1000 ∧ Q (.str (tx ((lt z).take n.toNat))) H
theorem ok_first_letters (T : Txt K mg a) : FnOk P w K mg base CX0 1 a.a_first_letters a.d_first_letters ["letters", "count"] spFirst := by
  refine T.F_first_letters.ok sc_first_letters (fun vs H Q E h => ?_) (fun cdv A outer s H vs Q E hr h => ?_)
  · obtain ⟨z, n, rfl, _⟩ := h
    rfl
  · obtain ⟨z, n, rfl, hz, q⟩ := h
    refine ⟨_, (pss_one (ps_ret (pe_slice sl_str (pv 0) po_none (po_some (pe_callB (call_max2 rfl) (by rfl) T.z_max (by decide +kernel) (pa_cons pe_int (pa_cons (pv 1) pa_nil))))))), ?_⟩
    have e : (if n > 0 then n else 0) = ((n.toNat : Nat) : Int) := by split <;> omega
    simp only [tSeq, tAsg, tRet, tRetN, tDrop, tIfS, tNext, tNever, tOp, tUn, tVar, tC, rI0, rI, rU, tTest, tIf, tB, tAnd, tOr, tNot, tAndV, tOrV, tNotV, gName, gSub, gTupH, gCons, gNil, tYes, tCons, tNil, tLst, tTup, tCB, tCall, tMeth, tMake, tFld, sFld, tFor_c, tLc_c, iRng1, iList, iTup, iStr, iSeqB, iEnumB, tM1, tSl, tPart, tNoPart, rSlS, rIxS, tBM, rAppend, tIf, rEq, rNe, scal, hIx, hIxT, hIxB, hSet, hInt, hIntB, hLen, hLenT, hLenB, L2.start, wipe, List.map_cons, List.map_nil, List.set_cons_zero, List.set_cons_succ, List.set_nil, List.length_cons, List.length_nil, List.length_map, List.cons_append, List.nil_append, List.append_nil, List.replicate, List.getElem?_cons_zero, List.getElem?_cons_succ, Option.some.injEq, V.int.injEq, V.bl.injEq, V.ref.injEq, V.str.injEq, List.cons.injEq, exists_eq_left', exists_eq_left, exists_and_left, and_assoc, upd_same, upd_upd, HO.lst.injEq, HO.tup.injEq, atI_0, atI_1, atI_2, atI_3, set_1, set_2, set_3, CDiv, CPow, CMul, List.length_set, Int.reduceToNat, Int.reduceLE, Int.reduceLT, Int.reducePow, Int.reduceNeg, Nat.reduceAdd, Nat.reduceLT, Nat.reduceLeDiff, Nat.reducePow, Nat.zero_add, or_true, true_or, gt_iff_lt, ge_iff_le, and_true, true_and, decide_eq_true_eq, if_true, Bool.false_eq_true, if_false]
    refine ⟨sizeLe hz, ?_⟩
    rw [e, cut_take]
    exact q
def spAsc : Sp := fun vs H Q _ => ∃ (z x : Str), vs = [.str z, .str x] ∧ z.length ≤ 1000 ∧ ∀ H', Same H H' → Q (.bl (asc (lt z) (lt x))) H'
theorem ok_is_ascending (T : Txt K mg a) : FnOk P w K mg base CX0 1 a.a_is_ascending a.d_is_ascending ["letters", "text"] spAsc := by
  refine T.F_is_ascending.ok sc_is_ascending (fun vs H Q E h => ?_) (fun cdv A outer s H vs Q E hr h => ?_)
  · obtain ⟨z, n, rfl, _⟩ := h
    rfl
  · obtain ⟨z, x, rfl, hz, q⟩ := h
    refine ⟨_, (pss_cons (ps_set (i := 2) sc_is_ascending.nd rfl (.inl rfl) (pv 0))
      (pss_cons (ps_for PassesOwn.never rfl (pi_str (pv 1)) (pg_name (i := 3) sc_is_ascending.nd rfl (.inl rfl))
      (pss_cons (ps_if (pt_cmpR op_notIn_sign (pv 3) (pv 2) rfl)
      (pss_one (ps_ret pe_bl))
      pss_nil)
      (pss_one (ps_set (i := 2) sc_is_ascending.nd rfl (.inl rfl) (pe_ix ixHT (pe_partition (pv 2) (pv 3)) pe_int (fun _ _ => rfl))))))
      (pss_one (ps_ret pe_bl)))), ?_⟩
    simp only [tSeq, tAsg, tRet, tRetN, tDrop, tIfS, tNext, tNever, tOp, tUn, tVar, tC, rI0, rI, rU, tTest, tIf, tB, tAnd, tOr, tNot, tAndV, tOrV, tNotV, gName, gSub, gTupH, gCons, gNil, tYes, tCons, tNil, tLst, tTup, tCB, tCall, tMeth, tMake, tFld, sFld, tFor_c, tLc_c, iRng1, iList, iTup, iStr, iSeqB, iEnumB, tM1, tSl, tPart, tNoPart, rSlS, rIxS, tBM, rAppend, tIf, rEq, rNe, scal, hIx, hIxT, hIxB, hSet, hInt, hIntB, hLen, hLenT, hLenB, L2.start, wipe, List.map_cons, List.map_nil, List.set_cons_zero, List.set_cons_succ, List.set_nil, List.length_cons, List.length_nil, List.length_map, List.cons_append, List.nil_append, List.append_nil, List.replicate, List.getElem?_cons_zero, List.getElem?_cons_succ, Option.some.injEq, V.int.injEq, V.bl.injEq, V.ref.injEq, V.str.injEq, List.cons.injEq, exists_eq_left', exists_eq_left, exists_and_left, and_assoc, upd_same, upd_upd, HO.lst.injEq, HO.tup.injEq, atI_0, atI_1, atI_2, atI_3, set_1, set_2, set_3, CDiv, CPow, CMul, List.length_set, Int.reduceToNat, Int.reduceLE, Int.reduceLT, Int.reducePow, Int.reduceNeg, Nat.reduceAdd, Nat.reduceLT, Nat.reduceLeDiff, Nat.reducePow, Nat.zero_add, or_true, true_or, gt_iff_lt, ge_iff_le, and_true, true_and, decide_eq_true_eq, if_true, Bool.false_eq_true, if_false]
    refine forStr (fun i σ H' => ∃ b v, σ = [some (.str z), some (.str x), some (.str (tx b)), v] ∧ Same H H' ∧ asc (lt z) (lt x) = asc b ((lt x).drop i) ∧ b.length ≤ 1000) ⟨lt z, none, by rw [tx_lt], Same.refl _, rfl, by rw [len_lt]; exact hz⟩ ?_ ?_
    · rintro i c σ H' hc ⟨b, v, rfl, hs, ea, hb⟩
      have ed : (lt x).drop i = c :: (lt x).drop (i + 1) := by
        obtain ⟨hi, e⟩ := List.getElem?_eq_some_iff.mp hc
        rw [← e]
        exact List.drop_eq_getElem_cons hi
      rw [ed, asc_cons] at ea
      simp only [tSeq, tAsg, tRet, tRetN, tDrop, tIfS, tNext, tNever, tOp, tUn, tVar, tC, rI0, rI, rU, tTest, tIf, tB, tAnd, tOr, tNot, tAndV, tOrV, tNotV, gName, gSub, gTupH, gCons, gNil, tYes, tCons, tNil, tLst, tTup, tCB, tCall, tMeth, tMake, tFld, sFld, tFor_c, tLc_c, iRng1, iList, iTup, iStr, iSeqB, iEnumB, tM1, tSl, tPart, tNoPart, rSlS, rIxS, tBM, rAppend, tIf, rEq, rNe, scal, hIx, hIxT, hIxB, hSet, hInt, hIntB, hLen, hLenT, hLenB, L2.start, wipe, List.map_cons, List.map_nil, List.set_cons_zero, List.set_cons_succ, List.set_nil, List.length_cons, List.length_nil, List.length_map, List.cons_append, List.nil_append, List.append_nil, List.replicate, List.getElem?_cons_zero, List.getElem?_cons_succ, Option.some.injEq, V.int.injEq, V.bl.injEq, V.ref.injEq, V.str.injEq, List.cons.injEq, exists_eq_left', exists_eq_left, exists_and_left, and_assoc, upd_same, upd_upd, HO.lst.injEq, HO.tup.injEq, atI_0, atI_1, atI_2, atI_3, set_1, set_2, set_3, CDiv, CPow, CMul, List.length_set, Int.reduceToNat, Int.reduceLE, Int.reduceLT, Int.reducePow, Int.reduceNeg, Nat.reduceAdd, Nat.reduceLT, Nat.reduceLeDiff, Nat.reducePow, Nat.zero_add, or_true, true_or, gt_iff_lt, ge_iff_le, and_true, true_and, decide_eq_true_eq, if_true, Bool.false_eq_true, if_false]
      refine ⟨c, rfl, ?_⟩
      rw [show (tx b).cps.toList = b from rfl]
      by_cases hm : c ∈ b
      · rw [decide_eq_true hm, Bool.true_and] at ea
        rw [decide_eq_true hm]
        refine iteF ⟨⟨_, rfl⟩, rfl, sizeLe hb, fun p hp => ⟨after b c, part_after hm, fun d o e => ?_, ea, Nat.le_trans (after_len b c) hb⟩⟩
        rw [upd_ne (ne_of_none (hs d o e) hp)]
        exact hs d o e
      · rw [decide_eq_false hm, Bool.false_and] at ea
        rw [decide_eq_false hm]
        refine iteT ?_
        rw [← ea]
        exact q _ hs
    · rintro σ H' ⟨b, v, rfl, hs, ea, hb⟩
      rw [List.drop_of_length_le (Nat.le_refl _), asc_nil] at ea
      have z := q _ hs
      rw [ea] at z
      exact z
def spIsMsg : Sp := fun vs H Q _ => ∃ (n : Int) (x : Str), vs = [.int n, .str x] ∧ ∀ H', Same H H' → Q (.bl (isMsg n x)) H'
theorem ok_is_message (T : Txt K mg a) : FnOk P w K mg base CX0 2 a.a_is_message a.d_is_message ["variables", "text"] spIsMsg := by
  have G_first_letters := ok_first_letters (P := P) (w := w) (base := base) T
  have G_is_ascending := ok_is_ascending (P := P) (w := w) (base := base) T
  refine T.F_is_message.ok sc_is_message (fun vs H Q E h => ?_) (fun cdv A outer s H vs Q E hr h => ?_)
  · obtain ⟨z, n, rfl, _⟩ := h
    rfl
  · obtain ⟨n, x, rfl, q⟩ := h
    refine ⟨_, (pss_one (ps_ret (pe_and (pe_cmpR op_ne (pv 1) pe_str (nomark _)) (pe_one (pe_call G_is_ascending (hr.mono (by first | decide | exact Nat.le_refl _ | omega)) (by rfl) T.g_is_ascending T.F_is_ascending.kp T.b_is_ascending .nil pass0 (pa_cons (pe_call G_first_letters (hr.mono (by first | decide | exact Nat.le_refl _ | omega)) (by rfl) T.g_first_letters T.F_first_letters.kp T.b_first_letters .nil pass0 (pa_cons (pe_glob (v := .str _) rfl T.m_VARIABLE_LETTERS ⟨_, rfl⟩) (pa_cons (pv 0) pa_nil))) (pa_cons (pv 1) pa_nil))))))), ?_⟩
    simp only [tSeq, tAsg, tRet, tRetN, tDrop, tIfS, tNext, tNever, tOp, tUn, tVar, tC, rI0, rI, rU, tTest, tIf, tB, tAnd, tOr, tNot, tAndV, tOrV, tNotV, gName, gSub, gTupH, gCons, gNil, tYes, tCons, tNil, tLst, tTup, tCB, tCall, tMeth, tMake, tFld, sFld, tFor_c, tLc_c, iRng1, iList, iTup, iStr, iSeqB, iEnumB, tM1, tSl, tPart, tNoPart, rSlS, rIxS, tBM, rAppend, tIf, rEq, rNe, scal, hIx, hIxT, hIxB, hSet, hInt, hIntB, hLen, hLenT, hLenB, L2.start, wipe, List.map_cons, List.map_nil, List.set_cons_zero, List.set_cons_succ, List.set_nil, List.length_cons, List.length_nil, List.length_map, List.cons_append, List.nil_append, List.append_nil, List.replicate, List.getElem?_cons_zero, List.getElem?_cons_succ, Option.some.injEq, V.int.injEq, V.bl.injEq, V.ref.injEq, V.str.injEq, List.cons.injEq, exists_eq_left', exists_eq_left, exists_and_left, and_assoc, upd_same, upd_upd, HO.lst.injEq, HO.tup.injEq, atI_0, atI_1, atI_2, atI_3, set_1, set_2, set_3, CDiv, CPow, CMul, List.length_set, Int.reduceToNat, Int.reduceLE, Int.reduceLT, Int.reducePow, Int.reduceNeg, Nat.reduceAdd, Nat.reduceLT, Nat.reduceLeDiff, Nat.reducePow, Nat.zero_add, or_true, true_or, gt_iff_lt, ge_iff_le, and_true, true_and, decide_eq_true_eq, if_true, Bool.false_eq_true, if_false]
    by_cases e : x = ("" : Str)
    · rw [decide_eq_true e]
      refine iteF ?_
      have z := q H (Same.refl _)
      unfold isMsg at z
      rw [decide_eq_true e] at z
      exact z
    · rw [decide_eq_false e]
      refine iteT ⟨_, n, rfl, by decide +kernel, ?_⟩
      refine ⟨_, x, rfl, ?_, fun H' hs => ?_⟩
      · rw [len_tx, List.length_take]
        exact Nat.le_trans (Nat.min_le_right _ _) (by decide +kernel)
      · have z := q H' hs
        unfold isMsg at z
        rw [decide_eq_false e] at z
        exact z
def spIsLnk : Sp := fun vs H Q _ => ∃ (n : Int) (x : Str), vs = [.int n, .str x] ∧ x.length ≤ 1000 ∧ Q (.bl (isLnk n (lt x))) H
theorem ok_is_link (T : Txt K mg a) : FnOk P w K mg base CX0 2 a.a_is_link a.d_is_link ["nodes", "text"] spIsLnk := by
  have G_first_letters := ok_first_letters (P := P) (w := w) (base := base) T
  refine T.F_is_link.ok sc_is_link (fun vs H Q E h => ?_) (fun cdv A outer s H vs Q E hr h => ?_)
  · obtain ⟨z, n, rfl, _⟩ := h
    rfl
  · obtain ⟨n, x, rfl, hx, q⟩ := h
    refine ⟨_, (pss_cons (ps_if (PW.pt (pw_or (pt_cmpR op_ne (pe_callB call_len_str (by rfl) T.z_len PySem.boot_len (pa_cons (pv 1) pa_nil)) pe_int (nomark _)) (pw_or1 (pt_cmpR op_eq (pe_ix ix_str (pv 1) pe_int (fun _ _ => rfl)) (pe_ix ix_str (pv 1) pe_int (fun _ _ => rfl)) (nomark _)))))
      (pss_one (ps_ret pe_bl))
      pss_nil)
      (pss_cons (ps_set (i := 2) sc_is_link.nd rfl (.inl rfl) (pe_call G_first_letters (hr.mono (by first | decide | exact Nat.le_refl _ | omega)) (by rfl) T.g_first_letters T.F_first_letters.kp T.b_first_letters .nil pass0 (pa_cons (pe_glob (v := .str _) rfl T.m_NODE_LETTERS ⟨_, rfl⟩) (pa_cons (pv 0) pa_nil))))
      (pss_one (ps_ret (pe_and (pe_cmpR op_in_sign (pe_ix ix_str (pv 1) pe_int (fun _ _ => rfl)) (pv 2) rfl) (pe_one (pe_cmpR op_in_sign (pe_ix ix_str (pv 1) pe_int (fun _ _ => rfl)) (pv 2) rfl))))))), ?_⟩
    obtain ⟨l, rfl⟩ : ∃ l, x = tx l := ⟨lt x, (tx_lt x).symm⟩
    rw [len_tx] at hx
    rw [lt_tx] at q
    simp only [tSeq, tAsg, tRet, tRetN, tDrop, tIfS, tNext, tNever, tOp, tUn, tVar, tC, rI0, rI, rU, tTest, tIf, tB, tAnd, tOr, tNot, tAndV, tOrV, tNotV, gName, gSub, gTupH, gCons, gNil, tYes, tCons, tNil, tLst, tTup, tCB, tCall, tMeth, tMake, tFld, sFld, tFor_c, tLc_c, iRng1, iList, iTup, iStr, iSeqB, iEnumB, tM1, tSl, tPart, tNoPart, rSlS, rIxS, tBM, rAppend, tIf, rEq, rNe, scal, hIx, hIxT, hIxB, hSet, hInt, hIntB, hLen, hLenT, hLenB, L2.start, wipe, List.map_cons, List.map_nil, List.set_cons_zero, List.set_cons_succ, List.set_nil, List.length_cons, List.length_nil, List.length_map, List.cons_append, List.nil_append, List.append_nil, List.replicate, List.getElem?_cons_zero, List.getElem?_cons_succ, Option.some.injEq, V.int.injEq, V.bl.injEq, V.ref.injEq, V.str.injEq, List.cons.injEq, exists_eq_left', exists_eq_left, exists_and_left, and_assoc, upd_same, upd_upd, HO.lst.injEq, HO.tup.injEq, atI_0, atI_1, atI_2, atI_3, set_1, set_2, set_3, CDiv, CPow, CMul, List.length_set, Int.reduceToNat, Int.reduceLE, Int.reduceLT, Int.reducePow, Int.reduceNeg, Nat.reduceAdd, Nat.reduceLT, Nat.reduceLeDiff, Nat.reducePow, Nat.zero_add, or_true, true_or, gt_iff_lt, ge_iff_le, and_true, true_and, decide_eq_true_eq, if_true, Bool.false_eq_true, if_false]
    have hz := sizeLe hx
    match l, hx, q, hz with
    | [], _, q, hz => simp [isLnk, tx, Str.length] at q ⊢; first | exact q | exact ⟨hz, q⟩
    | [c], _, q, hz => simp [isLnk, tx, Str.length] at q ⊢; first | exact q | exact ⟨hz, q⟩
    | [c, d], _, q, hz =>
      simp only [isLnk] at q
      simp [tx, Str.length, atI_0, atI_1]
      refine ⟨hz, ite2 (fun e => ?_) (fun e => ?_)⟩
      · rw [decide_eq_true e] at q
        exact q
      · rw [decide_eq_false e] at q
        refine ⟨_, n, rfl, by decide +kernel, hz, _, rfl, ?_⟩
        have em : ∀ y, (y ∈ (tx (AN.take n.toNat)).cps) = (y ∈ AN.take n.toNat) := fun y => by
          rw [← Array.mem_toList_iff]
          rfl
        refine ite2 (fun e1 => ⟨hz, _, rfl, ?_⟩) (fun e1 => ?_)
        · have e2 : c ∈ AN.take n.toNat := (em c) ▸ e1
          rw [decide_eq_true e2] at q
          have e3 : decide (d ∈ (tx (AN.take n.toNat)).cps) = decide (d ∈ AN.take n.toNat) := by
            congr 1
            exact em d
          show Q (V.bl (decide (d ∈ (tx (AN.take n.toNat)).cps))) H
          rw [e3]
          exact q
        · have e2 : ¬ c ∈ AN.take n.toNat := fun z => e1 ((em c).symm ▸ z)
          rw [decide_eq_false e2] at q
          exact q
    | c :: d :: e :: l, _, q, hz => simp [isLnk, tx, Str.length] at q ⊢; exact ⟨hz, q⟩
end
end AK
set_option Elab.async false
set_option linter.all false
set_option maxRecDepth 100000
set_option maxHeartbeats 4000000
namespace AK
open PySem PySem.Spec PyProof.Rows L2
abbrev look (fs : List (Str × V)) (f : Str) : Option V := fs.lookup f
/-- a network, at p: n variables, the rows of messages, the links -/
structure NetAt (C : Addr) (H : Hp) (p : Addr) (n : Int) (rows : List (List Str)) (links : List Str) : Prop where
  ex : ∃ (dx tn tl : Addr) (as : List Addr) (fs : List (Str × V)), H p = some (.ins C dx fs) ∧ look fs "variables" = some (.int n) ∧ look fs "nodes" = some (.ref tn) ∧ look fs "links" = some (.ref tl) ∧
    look fs "node_letters" = none ∧ look fs "variable_letters" = none ∧ look fs "messages" = none ∧ look fs "all_messages" = none ∧
    H tn = some (.tup (as.map V.ref)) ∧ H tl = some (.tup (links.map V.str)) ∧ as.length = rows.length ∧ ∀ (i : Nat) (r : List Str) (t : Addr), rows[i]? = some r → as[i]? = some t → H t = some (.tup (r.map V.str))
theorem NetAt.same {C : Addr} {H H' : Hp} {p : Addr} {n : Int} {rows : List (List Str)} {links : List Str} (h : NetAt C H p n rows links) (s : Same H H') : NetAt C H' p n rows links := by
  obtain ⟨dx, tn, tl, as, fs, h1, h2, h3, h4, h5, h6, h7, h8, h9, h10, h11, h12⟩ := h.ex
  exact ⟨dx, tn, tl, as, fs, s _ _ h1, h2, h3, h4, h5, h6, h7, h8, s _ _ h9, s _ _ h10, h11, fun i r t e1 e2 => s _ _ (h12 i r t e1 e2)⟩
section
variable {P : Program} {w : World} {K : PySem.W.Frag} {mg : Str → Option Value} {base : Heap} {a : Ads}
def spNL (C : Addr) : Sp := fun vs H Q _ => ∃ (p : Addr) (n : Int) (rows : List (List Str)) (links : List Str), vs = [.ref p] ∧ NetAt C H p n rows links ∧ Q (.str (tx (AN.take rows.length))) H
theorem ok_node_letters (T : Txt K mg a) : FnOk P w K mg base CX0 2 a.a_Network_node_letters a.d_Network_node_letters ["self"] (spNL a.c_Network) := by
  have G_first_letters := ok_first_letters (P := P) (w := w) (base := base) T
  refine T.F_Network_node_letters.ok sc_Network_node_letters (fun vs H Q E h => ?_) (fun cdv A outer s H vs Q E hr h => ?_)
  · obtain ⟨_, _, _, _, rfl, _⟩ := h
    rfl
  · obtain ⟨p, n, rows, links, rfl, hN, q⟩ := h
    obtain ⟨dx, tn, tl, as, fs, h1, h2, h3, h4, h5, h6, h7, h8, h9, h10, h11, h12⟩ := hN.ex
    refine ⟨_, (pss_one (ps_ret (pe_call G_first_letters (hr.mono (by first | decide | exact Nat.le_refl _ | omega)) (by rfl) T.g_first_letters T.F_first_letters.kp T.b_first_letters .nil pass0 (pa_cons (pe_glob (v := .str _) rfl T.m_NODE_LETTERS ⟨_, rfl⟩) (pa_cons (pe_callB callLenT (by rfl) T.z_len PySem.boot_len (pa_cons (pe_fld (pv 0) rfl) pa_nil)) pa_nil))))), ?_⟩
    simp only [tSeq, tAsg, tRet, tRetN, tDrop, tIfS, tNext, tNever, tOp, tUn, tVar, tC, rI0, rI, rU, tTest, tIf, tB, tAnd, tOr, tNot, tAndV, tOrV, tNotV, gName, gSub, gTupH, gCons, gNil, tYes, tCons, tNil, tLst, tTup, tCB, tCall, tMeth, tMake, tFld, sFld, tFor_c, tLc_c, iRng1, iList, iTup, iStr, iSeqB, iEnumB, tM1, tSl, tPart, tNoPart, rSlS, rIxS, tBM, rAppend, tIf, rEq, rNe, scal, hIx, hIxT, hIxB, hSet, hInt, hIntB, hLen, hLenT, hLenB, L2.start, wipe, List.map_cons, List.map_nil, List.set_cons_zero, List.set_cons_succ, List.set_nil, List.length_cons, List.length_nil, List.length_map, List.cons_append, List.nil_append, List.append_nil, List.replicate, List.getElem?_cons_zero, List.getElem?_cons_succ, Option.some.injEq, V.int.injEq, V.bl.injEq, V.ref.injEq, V.str.injEq, List.cons.injEq, exists_eq_left', exists_eq_left, exists_and_left, and_assoc, upd_same, upd_upd, HO.lst.injEq, HO.tup.injEq, atI_0, atI_1, atI_2, atI_3, set_1, set_2, set_3, CDiv, CPow, CMul, List.length_set, Int.reduceToNat, Int.reduceLE, Int.reduceLT, Int.reducePow, Int.reduceNeg, Nat.reduceAdd, Nat.reduceLT, Nat.reduceLeDiff, Nat.reducePow, Nat.zero_add, or_true, true_or, gt_iff_lt, ge_iff_le, and_true, true_and, decide_eq_true_eq, if_true, Bool.false_eq_true, if_false]
    refine ⟨a.c_Network, dx, fs, h1, T.C_Network, T.n_Network_nodes, _, h3, tn, rfl, _, h9, ?_⟩
    refine ⟨_, _, rfl, by decide +kernel, ?_⟩
    rw [List.length_map, h11]
    exact q
end
end AK
set_option Elab.async false
set_option linter.all false
set_option maxRecDepth 100000
set_option maxHeartbeats 4000000
namespace AK
open PySem PySem.Spec PyProof.Rows L2
section
variable {P : Program} {w : World} {K : PySem.W.Frag} {mg : Str → Option Value} {base : Heap} {a : Ads}
def spVL (C : Addr) : Sp := fun vs H Q _ => ∃ (p : Addr) (n : Int) (rows : List (List Str)) (links : List Str), vs = [.ref p] ∧ NetAt C H p n rows links ∧ Q (.str (tx (AV.take n.toNat))) H
theorem ok_variable_letters (T : Txt K mg a) : FnOk P w K mg base CX0 2 a.a_Network_variable_letters a.d_Network_variable_letters ["self"] (spVL a.c_Network) := by
  have G_first_letters := ok_first_letters (P := P) (w := w) (base := base) T
  refine T.F_Network_variable_letters.ok sc_Network_variable_letters (fun vs H Q E h => ?_) (fun cdv A outer s H vs Q E hr h => ?_)
  · obtain ⟨_, _, _, _, rfl, _⟩ := h
    rfl
  · obtain ⟨p, n, rows, links, rfl, hN, q⟩ := h
    obtain ⟨dx, tn, tl, as, fs, h1, h2, h3, h4, h5, h6, h7, h8, h9, h10, h11, h12⟩ := hN.ex
    refine ⟨_, (pss_one (ps_ret (pe_call G_first_letters (hr.mono (by first | decide | exact Nat.le_refl _ | omega)) (by rfl) T.g_first_letters T.F_first_letters.kp T.b_first_letters .nil pass0 (pa_cons (pe_glob (v := .str _) rfl T.m_VARIABLE_LETTERS ⟨_, rfl⟩) (pa_cons (pe_fld (pv 0) rfl) pa_nil))))), ?_⟩
    simp only [tSeq, tAsg, tRet, tRetN, tDrop, tIfS, tNext, tNever, tOp, tUn, tVar, tC, rI0, rI, rU, tTest, tIf, tB, tAnd, tOr, tNot, tAndV, tOrV, tNotV, gName, gSub, gTupH, gCons, gNil, tYes, tCons, tNil, tLst, tTup, tCB, tCall, tMeth, tMake, tFld, sFld, tFor_c, tLc_c, iRng1, iList, iTup, iStr, iSeqB, iEnumB, tM1, tSl, tPart, tNoPart, rSlS, rIxS, tBM, rAppend, tIf, rEq, rNe, scal, hIx, hIxT, hIxB, hSet, hInt, hIntB, hLen, hLenT, hLenB, L2.start, wipe, List.map_cons, List.map_nil, List.set_cons_zero, List.set_cons_succ, List.set_nil, List.length_cons, List.length_nil, List.length_map, List.cons_append, List.nil_append, List.append_nil, List.replicate, List.getElem?_cons_zero, List.getElem?_cons_succ, Option.some.injEq, V.int.injEq, V.bl.injEq, V.ref.injEq, V.str.injEq, List.cons.injEq, exists_eq_left', exists_eq_left, exists_and_left, and_assoc, upd_same, upd_upd, HO.lst.injEq, HO.tup.injEq, atI_0, atI_1, atI_2, atI_3, set_1, set_2, set_3, CDiv, CPow, CMul, List.length_set, Int.reduceToNat, Int.reduceLE, Int.reduceLT, Int.reducePow, Int.reduceNeg, Nat.reduceAdd, Nat.reduceLT, Nat.reduceLeDiff, Nat.reducePow, Nat.zero_add, or_true, true_or, gt_iff_lt, ge_iff_le, and_true, true_and, decide_eq_true_eq, if_true, Bool.false_eq_true, if_false]
    refine ⟨a.c_Network, dx, fs, h1, T.C_Network, T.n_Network_variables, _, h2, ?_⟩
    exact ⟨_, _, rfl, by decide +kernel, q⟩
def spAM (C : Addr) : Sp := fun vs H Q _ => ∃ (p : Addr) (n : Int) (rows : List (List Str)) (links : List Str), vs = [.ref p] ∧ NetAt C H p n rows links ∧ rows.flatten.length ≤ 900 ∧ ∀ q, H q = none → Q (.ref q) (upd H q (.lst (rows.flatten.map V.str)))
theorem flat_take {rows : List (List Str)} {i : Nat} {r : List Str} (h : rows[i]? = some r) : (rows.take (i + 1)).flatten = (rows.take i).flatten ++ r := by
  rw [take_s h, List.flatten_append]
  simp
theorem flat_le {rows : List (List Str)} {i j : Nat} {r : List Str} (h : rows[i]? = some r) : ((rows.take i).flatten ++ r.take j).length ≤ rows.flatten.length := by
  have e : (rows.take (i + 1)).flatten.length ≤ rows.flatten.length := by
    rw [← List.take_append_drop (i + 1) rows, List.flatten_append, List.length_append, List.take_append_drop]
    omega
  rw [flat_take h, List.length_append] at e
  rw [List.length_append, List.length_take]
  omega
theorem ok_all_messages (T : Txt K mg a) : FnOk P w K mg base CX0 1 a.a_Network_all_messages a.d_Network_all_messages ["self"] (spAM a.c_Network) := by
  refine T.F_Network_all_messages.ok sc_Network_all_messages (fun vs H Q E h => ?_) (fun cdv A outer s H vs Q E hr h => ?_)
  · obtain ⟨_, _, _, _, rfl, _⟩ := h
    rfl
  · obtain ⟨p, n, rows, links, rfl, hN, hl, q⟩ := h
    obtain ⟨dx, tn, tl, as, fs, h1, h2, h3, h4, h5, h6, h7, h8, h9, h10, h11, h12⟩ := hN.ex
    refine ⟨_, (pss_one (ps_ret (pe_lc2 (wi1 := iTup K (tVar 1)) (own := [("messages", 1), ("message", 2)]) (vs1 := [2]) (g := gName 1) (g1 := gName 2) (tt := tYes) (tt1 := tYes) rfl sc_Network_all_messages.nd (pi_tup (pe_fld (pv 0) rfl)) (blkOk_by (own := [("messages", 1), ("message", 2)]) (N := sc_Network_all_messages_N) (sc := defScope s_Network_all_messages) (by decide +kernel)) (by decide) (fun _ _ _ _ _ => (pg_name (i := 1) sc_Network_all_messages.nd rfl (.inl rfl))) (fun _ _ _ _ _ => pts_nil) (fun _ _ _ _ _ => by exact (pi_tup (pv 1))) (fun _ _ _ _ _ => by exact (pg_name (i := 2) sc_Network_all_messages.nd rfl (.inl rfl))) (fun _ _ _ _ _ => by exact pts_nil) (fun _ _ _ _ _ => by exact (pv 2))))), ?_⟩
    refine ⟨_, rfl, p, a.c_Network, dx, fs, _, rfl, h1, T.C_Network, T.n_Network_nodes, h3, tn, rfl, ⟨_, SqT.of h9⟩, fun D hD => ?_⟩
    have nT : ∀ {b : Addr} {xs : List V}, H b = some (.tup xs) → ∀ o, upd H D o b = some (.tup xs) := fun {b xs} e o => by
      rw [upd_ne (ne_of_none e hD)]
      exact e
    refine ⟨fun i m H' => m = rows.length - i ∧ i ≤ rows.length ∧ H' = upd H D (.lst ((rows.take i).flatten.map V.str)), ⟨_, rfl, Nat.zero_le _, rfl⟩, ?_⟩
    rintro i m H' ⟨rfl, hi, rfl⟩
    have hq : SqT K (upd H D (.lst ((rows.take i).flatten.map V.str))) tn (as.map V.ref) := SqT.of (nT h9 _)
    by_cases hlt : i < rows.length
    · have hr' : rows[i]? = some rows[i] := List.getElem?_eq_getElem hlt
      have ha' : as[i]? = some (as[i]'(by omega)) := List.getElem?_eq_getElem _
      have hm' : (as.map V.ref)[i]? = some (V.ref (as[i]'(by omega))) := by rw [List.getElem?_map, ha'] <;> rfl
      have ht := h12 i _ _ hr' ha'
      refine .inr ⟨⟨_, _, hq, hm'⟩, fun H' => H' = upd H D (.lst ((rows.take (i + 1)).flatten.map V.str)), fun H' e => ⟨rows.length - (i + 1), by omega, rfl, hlt, e⟩, ?_⟩
      rintro x H' ⟨rfl, hx⟩
      obtain rfl : V.ref (as[i]'(by omega)) = x := Option.some.inj ((hm'.symm.trans (hx _ hq)))
      refine ⟨rfl, ?_⟩
      simp only [tYes, if_true]
      refine ⟨_, rfl, _, rfl, ⟨_, SqT.of (nT ht _)⟩, ?_⟩
      refine ⟨fun j k H' => k = rows[i].length - j ∧ j ≤ rows[i].length ∧ H' = upd H D (.lst (((rows.take i).flatten ++ rows[i].take j).map V.str)), ⟨_, rfl, Nat.zero_le _, by rw [List.take_zero, List.append_nil]⟩, ?_⟩
      rintro j k H' ⟨rfl, hj, rfl⟩
      have hq1 : SqT K (upd H D (.lst (((rows.take i).flatten ++ rows[i].take j).map V.str))) (as[i]'(by omega)) (rows[i].map V.str) := SqT.of (nT ht _)
      by_cases hlt1 : j < rows[i].length
      · have he : rows[i][j]? = some rows[i][j] := List.getElem?_eq_getElem hlt1
        have he' : (rows[i].map V.str)[j]? = some (V.str rows[i][j]) := by rw [List.getElem?_map, he] <;> rfl
        refine .inr ⟨⟨_, _, hq1, he'⟩, fun H' => H' = upd H D (.lst (((rows.take i).flatten ++ rows[i].take (j + 1)).map V.str)), fun H' e => ⟨rows[i].length - (j + 1), by omega, rfl, hlt1, e⟩, ?_⟩
        rintro x H' ⟨rfl, hx⟩
        obtain rfl : V.str rows[i][j] = x := Option.some.inj ((he'.symm.trans (hx _ hq1)))
        refine ⟨rfl, ?_⟩
        try simp only [tYes, if_true]
        refine ⟨_, rfl, _, upd_same, ?_, ?_⟩
        · rw [List.length_map]
          exact small1000 (Nat.le_trans (flat_le hr') (by omega))
        · rw [upd_upd, take_s he]
          simp only [List.map_append, List.append_assoc, List.map_cons, List.map_nil]
      · obtain rfl : j = rows[i].length := by omega
        refine .inl ⟨⟨_, hq1, by rw [List.length_map]; exact Nat.le_refl _⟩, ?_⟩
        rw [flat_take hr', List.take_length]
    · obtain rfl : i = rows.length := by omega
      refine .inl ⟨⟨_, hq, by rw [List.length_map, h11]; exact Nat.le_refl _⟩, ?_⟩
      rw [List.take_length]
      exact q D hD
end
end AK
set_option Elab.async false
set_option linter.all false
set_option maxRecDepth 100000
set_option maxHeartbeats 4000000
namespace AK
open PySem PySem.Spec PyProof.Rows L2
/-! ### BadNetwork is made and raised -/
abbrev badF (v1 v2 v3 : V) : List (Str × V) := [("reason", v3), ("number", v2), ("part", v1)]
def BadAt (H H' : Hp) (d : Addr) (v1 v2 v3 : V) : Prop := Same H H' ∧ H' d = some (.xd (badF v1 v2 v3))
def spBNI (C : Addr) : Sp := fun vs H Q _ => ∃ (e : Addr) (v1 v2 v3 : V), vs = [.ref e, v1, v2, v3] ∧ H e = some (exo e C none) ∧
  ∀ d X1, H d = none → d ≠ e → Q .non (upd (upd (upd H d X1) e (exo e C (some d))) d (exd d (badF v1 v2 v3)))
theorem mk_bad {C : Addr} {H : Hp} {v1 v2 v3 : V} {Q : XK} (q : ∀ d H', BadAt H H' d v1 v2 v3 → Q (.ref C) (some d) H') :
    ∀ e, H e = none → spBNI C (.ref e :: ([v1, v2, v3] ++ [])) (upd H e (exo e C none)) (fun v H2 => v = .non ∧ ∃ d fs, H2 e = some (exo e C (some d)) ∧ H2 d = some (exd d fs) ∧ H d = none ∧ Q (.ref C) (some d) (upd (del H2 e) d (.xd fs))) (fun _ _ _ => False) := by
  intro e he
  refine ⟨e, v1, v2, v3, rfl, upd_same, fun d X1 hd hne => ?_⟩
  have hd' : H d = none := by rw [upd_ne hne] at hd; exact hd
  refine ⟨rfl, d, _, ?_, upd_same, hd', q d _ ⟨fun b o hb => ?_, upd_same⟩⟩
  · rw [upd_ne hne.symm, upd_same]
  · have b1 := ne_of_none hb he
    have b2 := ne_of_none hb hd'
    rw [upd_ne b2, del_ne b1, upd_ne b2, upd_ne b1, upd_ne b2, upd_ne b1]
    exact hb
section
variable {P : Program} {w : World} {K : PySem.W.Frag} {mg : Str → Option Value} {base : Heap} {a : Ads}
theorem ok_BadNetwork (T : Txt K mg a) : FnOk P w K mg base CX0 1 a.a_BadNetwork_init a.d_BadNetwork_init ["self", "part", "number", "reason"] (spBNI a.c_BadNetwork) := by
  refine T.F_BadNetwork_init.ok sc_BadNetwork_init (fun vs H Q E h => ?_) (fun cdv A outer s H vs Q E hr h => ?_)
  · obtain ⟨_, _, _, _, rfl, _⟩ := h
    rfl
  · obtain ⟨e, v1, v2, v3, rfl, he, q⟩ := h
    refine ⟨_, (pss_cons (ps_ost (pv 0) (pv 1) rfl)
      (pss_cons (ps_ost (pv 0) (pv 2) rfl)
      (pss_one (ps_ost (pv 0) (pv 3) rfl)))), ?_⟩
    refine ⟨_, rfl, _, rfl, e, a.c_BadNetwork, rfl, T.O_BadNetwork, T.n_BadNetwork_part, .inl ⟨he, fun d hd hne => ?_⟩⟩
    refine ⟨_, rfl, _, rfl, e, a.c_BadNetwork, rfl, T.O_BadNetwork, T.n_BadNetwork_number, .inr ⟨d, [("part", v1)], upd_same, ?_, Nat.le_of_ble_eq_true rfl, ?_⟩⟩
    · rw [upd_ne hne, upd_same]
    refine ⟨_, rfl, _, rfl, e, a.c_BadNetwork, rfl, T.O_BadNetwork, T.n_BadNetwork_reason, .inr ⟨d, [("number", v2), ("part", v1)], ?_, upd_same, Nat.le_of_ble_eq_true rfl, ?_⟩⟩
    · rw [upd_ne hne.symm, upd_same]
    have z := q d (exd d [("part", v1)]) hd hne
    rw [upd_upd]
    exact z
/-! ### the checks -/
def spCV (C : Addr) : Sp := fun vs H Q E => ∃ n : Int, vs = [.int n] ∧ (0 ≤ n → n ≤ 6 → Q .non H) ∧ (n < 0 ∨ 6 < n → ∀ d H', BadAt H H' d (.str "variables") .non (.str "range") → E (.ref C) (some d) H')
theorem ok_check_variables (T : Txt K mg a) : FnOk P w K mg base (L2.CX P w) 3 a.a_check_variables a.d_check_variables ["variables"] (spCV a.c_BadNetwork) := by
  have G_BadNetwork_init := ok_BadNetwork (P := P) (w := w) (base := base) T
  refine T.F_check_variables.okX sc_check_variables (fun vs H Q E h => ?_) (fun cdv A outer s H vs Q E hr h => ?_)
  · obtain ⟨_, rfl, _⟩ := h
    rfl
  · obtain ⟨n, rfl, q1, q2⟩ := h
    refine ⟨_, (pss_one (ps_if (PW.pt (pw_or (pt_cmpR op_lt (pv 0) pe_int (nomark _)) (pw_or1 (pt_cmpR op_gt (pv 0) (pe_glob (v := .int _) rfl T.m_MOST_VARIABLES ⟨_, rfl⟩) (nomark _)))))
      (pss_one (ps_raise rfl (takes_of rfl rfl rfl rfl) (pmk_oex T.O_BadNetwork T.I_BadNetwork_init T.T_BadNetwork_init G_BadNetwork_init (hr.mono (by first | decide | exact Nat.le_refl _ | omega)) T.b_BadNetwork_init .nil pass0 (by rfl) T.g_BadNetwork (pa_cons pe_str (pa_cons pe_non (pa_cons pe_str pa_nil))))))
      pss_nil)), ?_⟩
    simp only [tSeq, tAsg, tRet, tRetN, tDrop, tIfS, tNext, tNever, tOp, tUn, tVar, tC, rI0, rI, rU, tTest, tIf, tB, tAnd, tOr, tNot, tAndV, tOrV, tNotV, gName, gSub, gTupH, gCons, gNil, tYes, tCons, tNil, tLst, tTup, tCB, tCall, tMeth, tMake, tFld, sFld, tFor_c, tLc_c, iRng1, iList, iTup, iStr, iSeqB, iEnumB, tM1, tSl, tPart, tNoPart, rSlS, rIxS, tBM, rAppend, tIf, rEq, rNe, scal, hIx, hIxT, hIxB, hSet, hInt, hIntB, hLen, hLenT, hLenB, L2.start, wipe, List.map_cons, List.map_nil, List.set_cons_zero, List.set_cons_succ, List.set_nil, List.length_cons, List.length_nil, List.length_map, List.cons_append, List.nil_append, List.append_nil, List.replicate, List.getElem?_cons_zero, List.getElem?_cons_succ, Option.some.injEq, V.int.injEq, V.bl.injEq, V.ref.injEq, V.str.injEq, List.cons.injEq, exists_eq_left', exists_eq_left, exists_and_left, and_assoc, upd_same, upd_upd, HO.lst.injEq, HO.tup.injEq, atI_0, atI_1, atI_2, atI_3, set_1, set_2, set_3, CDiv, CPow, CMul, List.length_set, Int.reduceToNat, Int.reduceLE, Int.reduceLT, Int.reducePow, Int.reduceNeg, Nat.reduceAdd, Nat.reduceLT, Nat.reduceLeDiff, Nat.reducePow, Nat.zero_add, or_true, true_or, gt_iff_lt, ge_iff_le, and_true, true_and, decide_eq_true_eq, if_true, Bool.false_eq_true, if_false]
    have bad : n < 0 ∨ 6 < n → tMkO a.c_BadNetwork (spBNI a.c_BadNetwork) [] (tCons (tC (V.str "variables")) (tCons (tC V.non) (tCons (tC (V.str "range")) tNil))) (some (V.int n) :: List.replicate (1 - 1) none) H fun cls d H' => E cls d H' := fun h => ⟨Nat.le_of_ble_eq_true rfl, mk_bad (q2 h)⟩
    refine ite2 (fun c => bad (.inl c)) fun c => ite2 (fun c2 => bad (.inr c2)) fun c2 => q1 (by omega) (by omega)
/-- rows of texts, at p: lists or tuples -/
structure ArgAt (H : Hp) (p : Addr) (rows : List (List Str)) : Prop where
  ex : ∃ as : List Addr, RowAt H p (as.map V.ref) ∧ as.length = rows.length ∧ ∀ (i : Nat) (r : List Str) (t : Addr), rows[i]? = some r → as[i]? = some t → RowAt H t (r.map V.str)
theorem row_same {H H' : Hp} {p : Addr} {xs : List V} (h : RowAt H p xs) (s : Same H H') : RowAt H' p xs := h.imp (s _ _) (s _ _)
theorem ArgAt.same {H H' : Hp} {p : Addr} {rows : List (List Str)} (h : ArgAt H p rows) (s : Same H H') : ArgAt H' p rows := by
  obtain ⟨as, h1, h2, h3⟩ := h.ex
  exact ⟨as, row_same h1 s, h2, fun i r t e1 e2 => row_same (h3 i r t e1 e2) s⟩
theorem Same.tr {G H H' : Hp} (a : Same G H) (b : Same H H') : Same G H' := fun x o e => b x o (a x o e)
/-- what is wrong with a row of messages -/
def rowBad (n : Int) (r : List Str) : Option Str := if 4 < r.length then some "count" else if r.all (isMsg n) then none else some "message"
def spCN (C : Addr) : Sp := fun vs H Q E => ∃ (n : Int) (p : Addr) (rows : List (List Str)), vs = [.int n, .ref p] ∧ ArgAt H p rows ∧
  (1 ≤ rows.length → rows.length ≤ 6 → (∀ r ∈ rows, rowBad n r = none) → ∀ H', Same H H' → Q .non H') ∧
  (rows.length < 1 ∨ 6 < rows.length → ∀ d H', BadAt H H' d (.str "nodes") .non (.str "count") → E (.ref C) (some d) H') ∧
  (∀ (i : Nat) (r : List Str) (why : Str), 1 ≤ rows.length → rows.length ≤ 6 → rows[i]? = some r → (∀ x ∈ rows.take i, rowBad n x = none) → rowBad n r = some why → ∀ d H', BadAt H H' d (.str "nodes") (.int i) (.str why) → E (.ref C) (some d) H')
theorem forEnumB {g : TG} {tb : TS} {D : Ends} {σ : L2.St} {H : Hp} {K : PySem.W.Frag} {p : Addr} {xs : List V} (hr : RowAt H p xs) (Pv : Nat → L2.St → Hp → Prop) (h0 : Pv 0 σ H) (hl : ∀ i σ H', Pv i σ H' → Same H H')
    (hs : ∀ i x T σ H, xs[i]? = some x → Pv i σ H → H T = none → g (.ref T) σ (upd H T (.tup [.int (i : Nat), x])) fun σ2 H2 => tb { D with nx := Pv (i + 1), ct := Pv (i + 1), bk := D.nx } σ2 H2) (hd : ∀ σ H, Pv xs.length σ H → D.nx σ H) :
    (∃ ys, SqL K H p ys ∧ contF g tb D σ (Ite K p) H) ∨ (∃ ys, SqT K H p ys ∧ contF g tb D σ (IteT K p) H) := by
  rcases hr with hr | hr
  · exact .inl ⟨xs, SqL.of hr, forEnumL Pv h0 (fun i σ H' _ z => SqL.of (hl i σ H' z _ _ hr)) hs hd⟩
  · exact .inr ⟨xs, SqT.of hr, forEnumT Pv h0 (fun i σ H' _ z => SqT.of (hl i σ H' z _ _ hr)) hs hd⟩
theorem forSeqB {g : TG} {tb : TS} {D : Ends} {σ : L2.St} {H : Hp} {K : PySem.W.Frag} {p : Addr} {xs : List V} (hr : RowAt H p xs) (Pv : Nat → L2.St → Hp → Prop) (h0 : Pv 0 σ H) (hl : ∀ i σ H', Pv i σ H' → Same H H')
    (hs : ∀ i x σ H, xs[i]? = some x → Pv i σ H → g x σ H fun σ2 H2 => tb { D with nx := Pv (i + 1), ct := Pv (i + 1), bk := D.nx } σ2 H2) (hd : ∀ σ H, Pv xs.length σ H → D.nx σ H) :
    (∃ ys, SqL K H p ys ∧ contF g tb D σ (Itl K p) H) ∨ (∃ ys, SqT K H p ys ∧ contF g tb D σ (Itt K p) H) := by
  rcases hr with hr | hr
  · exact .inl ⟨xs, SqL.of hr, forLst Pv h0 (fun i σ H' _ z => SqL.of (hl i σ H' z _ _ hr)) hs hd⟩
  · exact .inr ⟨xs, SqT.of hr, forTup Pv h0 (fun i σ H' _ z => SqT.of (hl i σ H' z _ _ hr)) hs hd⟩
theorem ok_check_nodes (T : Txt K mg a) : FnOk P w K mg base (L2.CX P w) 3 a.a_check_nodes a.d_check_nodes ["variables", "nodes"] (spCN a.c_BadNetwork) := by
  have G_BadNetwork_init := ok_BadNetwork (P := P) (w := w) (base := base) T
  have G_is_message := ok_is_message (P := P) (w := w) (base := base) T
  refine T.F_check_nodes.okX sc_check_nodes (fun vs H Q E h => ?_) (fun cdv A outer s H vs Q E hr h => ?_)
  · obtain ⟨_, _, _, rfl, _⟩ := h
    rfl
  · obtain ⟨n, p, rows, rfl, hA, q1, q2, q3⟩ := h
    obtain ⟨as, hp, hal, hrow⟩ := hA.ex
    refine ⟨_, (pss_cons (ps_if (PW.pt (pw_or (pt_cmpR op_lt (pe_callB callLenB (by rfl) T.z_len PySem.boot_len (pa_cons (pv 1) pa_nil)) pe_int (nomark _)) (pw_or1 (pt_cmpR op_gt (pe_callB callLenB (by rfl) T.z_len PySem.boot_len (pa_cons (pv 1) pa_nil)) (pe_glob (v := .int _) rfl T.m_MOST_NODES ⟨_, rfl⟩) (nomark _)))))
      (pss_one (ps_raise rfl (takes_of rfl rfl rfl rfl) (pmk_oex T.O_BadNetwork T.I_BadNetwork_init T.T_BadNetwork_init G_BadNetwork_init (hr.mono (by first | decide | exact Nat.le_refl _ | omega)) T.b_BadNetwork_init .nil pass0 (by rfl) T.g_BadNetwork (pa_cons pe_str (pa_cons pe_non (pa_cons pe_str pa_nil))))))
      pss_nil)
      (pss_one (ps_for (passes_of rfl) rfl (pi_enumB (by rfl) T.z_enumerate (pa_cons (pv 1) pa_nil)) (pg_tupH (n := 2) (by rfl) (pgs_cons (pg_name (i := 2) sc_check_nodes.nd rfl (.inl rfl)) (pgs_cons (pg_name (i := 3) sc_check_nodes.nd rfl (.inl rfl)) pgs_nil)))
      (pss_cons (ps_if (pt_cmpR op_gt (pe_callB callLenB (by rfl) T.z_len PySem.boot_len (pa_cons (pv 3) pa_nil)) (pe_glob (v := .int _) rfl T.m_MOST_MESSAGES ⟨_, rfl⟩) (nomark _))
      (pss_one (ps_raise rfl (takes_of rfl rfl rfl rfl) (pmk_oex T.O_BadNetwork T.I_BadNetwork_init T.T_BadNetwork_init G_BadNetwork_init (hr.mono (by first | decide | exact Nat.le_refl _ | omega)) T.b_BadNetwork_init .nil pass0 (by rfl) T.g_BadNetwork (pa_cons pe_str (pa_cons (pv 2) (pa_cons pe_str pa_nil))))))
      pss_nil)
      (pss_one (ps_for (passes_of rfl) rfl (pi_seqB (pv 3)) (pg_name (i := 4) sc_check_nodes.nd rfl (.inl rfl))
      (pss_one (ps_if (pt_not (pt_val (pe_call G_is_message (hr.mono (by first | decide | exact Nat.le_refl _ | omega)) (by rfl) T.g_is_message T.F_is_message.kp T.b_is_message .nil pass0 (pa_cons (pv 0) (pa_cons (pv 4) pa_nil)))))
      (pss_one (ps_raise rfl (takes_of rfl rfl rfl rfl) (pmk_oex T.O_BadNetwork T.I_BadNetwork_init T.T_BadNetwork_init G_BadNetwork_init (hr.mono (by first | decide | exact Nat.le_refl _ | omega)) T.b_BadNetwork_init .nil pass0 (by rfl) T.g_BadNetwork (pa_cons pe_str (pa_cons (pv 2) (pa_cons pe_str pa_nil))))))
      pss_nil)))))))), ?_⟩
    simp only [tSeq, tAsg, tRet, tRetN, tDrop, tIfS, tNext, tNever, tOp, tUn, tVar, tC, rI0, rI, rU, tTest, tIf, tB, tAnd, tOr, tNot, tAndV, tOrV, tNotV, gName, gSub, gTupH, gCons, gNil, tYes, tCons, tNil, tLst, tTup, tCB, tCall, tMeth, tMake, tFld, sFld, tFor_c, tLc_c, iRng1, iList, iTup, iStr, iSeqB, iEnumB, tM1, tSl, tPart, tNoPart, rSlS, rIxS, tBM, rAppend, tIf, rEq, rNe, scal, hIx, hIxT, hIxB, hSet, hInt, hIntB, hLen, hLenT, hLenB, L2.start, wipe, List.map_cons, List.map_nil, List.set_cons_zero, List.set_cons_succ, List.set_nil, List.length_cons, List.length_nil, List.length_map, List.cons_append, List.nil_append, List.append_nil, List.replicate, List.getElem?_cons_zero, List.getElem?_cons_succ, Option.some.injEq, V.int.injEq, V.bl.injEq, V.ref.injEq, V.str.injEq, List.cons.injEq, exists_eq_left', exists_eq_left, exists_and_left, and_assoc, upd_same, upd_upd, HO.lst.injEq, HO.tup.injEq, atI_0, atI_1, atI_2, atI_3, set_1, set_2, set_3, CDiv, CPow, CMul, List.length_set, Int.reduceToNat, Int.reduceLE, Int.reduceLT, Int.reducePow, Int.reduceNeg, Nat.reduceAdd, Nat.reduceLT, Nat.reduceLeDiff, Nat.reducePow, Nat.zero_add, or_true, true_or, gt_iff_lt, ge_iff_le, and_true, true_and, decide_eq_true_eq, if_true, Bool.false_eq_true, if_false]
    have tl : ∀ (why : V) (num : V) (σ : L2.St) (H0 : Hp), Same H H0 → (∀ d H', BadAt H0 H' d (.str "nodes") num why → E (.ref a.c_BadNetwork) (some d) H') → ∀ te : TE, (∀ R : VK, R num H0 → te σ H0 R) → tMkO a.c_BadNetwork (spBNI a.c_BadNetwork) [] (tCons (tC (V.str "nodes")) (tCons te (tCons (tC why) tNil))) σ H0 fun cls d H' => E cls d H' :=
      fun why num σ H0 hs q te ht => ht _ ⟨Nat.le_of_ble_eq_true rfl, mk_bad q⟩
    have c0 : (rows.length < 1 ∨ 6 < rows.length) → tMkO a.c_BadNetwork (spBNI a.c_BadNetwork) [] (tCons (tC (V.str "nodes")) (tCons (tC V.non) (tCons (tC (V.str "count")) tNil))) [some (V.int n), some (V.ref p), none, none, none] H fun cls d H' => E cls d H' :=
      fun h => tl _ .non _ H (Same.refl _) (q2 h) _ fun R z => z
    have el : (as.map V.ref).length = rows.length := by rw [List.length_map, hal]
    refine ⟨_, hp, ?_⟩
    rw [el]
    refine ite2 (fun c => c0 (.inl (by omega))) fun c => ⟨_, hp, ?_⟩
    rw [el]
    refine ite2 (fun c2 => c0 (.inr (by omega))) fun c2 => ?_
    refine forEnumB hp (fun i σ H' => (∃ v2 v3 v4, σ = [some (.int n), some (.ref p), v2, v3, v4]) ∧ Same H H' ∧ ∀ x ∈ rows.take i, rowBad n x = none) ⟨⟨none, none, none, rfl⟩, Same.refl _, fun x hx => by rw [List.take_zero] at hx; cases hx⟩ (fun i σ H' z => z.2.1) ?_ ?_
    · rintro i x U σ H' hx ⟨⟨v2, v3, v4, rfl⟩, hs, ok⟩ hU
      obtain ⟨t, ht, rfl⟩ := map_at hx
      have hi : i < rows.length := by
        rw [← hal]
        exact (List.getElem?_eq_some_iff.mp ht).1
      have hri : rows[i]? = some rows[i] := List.getElem?_eq_getElem hi
      have s2 : Same H (upd H' U (.tup [.int (i : Nat), .ref t])) := Same.tr hs (same_new hU)
      have hrow1 := row_same (hrow i _ t hri ht) s2
      have bad : ∀ why : Str, rowBad n rows[i] = some why → ∀ (H0 : Hp), Same (upd H' U (.tup [.int (i : Nat), .ref t])) H0 → ∀ d H1, BadAt H0 H1 d (.str "nodes") (.int i) (.str why) → E (.ref a.c_BadNetwork) (some d) H1 := fun why e H0 s0 d H1 hb => q3 i _ why (by omega) (by omega) hri ok e d H1 ⟨Same.tr (Same.tr s2 s0) hb.1, hb.2⟩
      simp only [tSeq, tAsg, tRet, tRetN, tDrop, tIfS, tNext, tNever, tOp, tUn, tVar, tC, rI0, rI, rU, tTest, tIf, tB, tAnd, tOr, tNot, tAndV, tOrV, tNotV, gName, gSub, gTupH, gCons, gNil, tYes, tCons, tNil, tLst, tTup, tCB, tCall, tMeth, tMake, tFld, sFld, tFor_c, tLc_c, iRng1, iList, iTup, iStr, iSeqB, iEnumB, tM1, tSl, tPart, tNoPart, rSlS, rIxS, tBM, rAppend, tIf, rEq, rNe, scal, hIx, hIxT, hIxB, hSet, hInt, hIntB, hLen, hLenT, hLenB, L2.start, wipe, List.map_cons, List.map_nil, List.set_cons_zero, List.set_cons_succ, List.set_nil, List.length_cons, List.length_nil, List.length_map, List.cons_append, List.nil_append, List.append_nil, List.replicate, List.getElem?_cons_zero, List.getElem?_cons_succ, Option.some.injEq, V.int.injEq, V.bl.injEq, V.ref.injEq, V.str.injEq, List.cons.injEq, exists_eq_left', exists_eq_left, exists_and_left, and_assoc, upd_same, upd_upd, HO.lst.injEq, HO.tup.injEq, atI_0, atI_1, atI_2, atI_3, set_1, set_2, set_3, CDiv, CPow, CMul, List.length_set, Int.reduceToNat, Int.reduceLE, Int.reduceLT, Int.reducePow, Int.reduceNeg, Nat.reduceAdd, Nat.reduceLT, Nat.reduceLeDiff, Nat.reducePow, Nat.zero_add, or_true, true_or, gt_iff_lt, ge_iff_le, and_true, true_and, decide_eq_true_eq, if_true, Bool.false_eq_true, if_false]
      refine ⟨_, hrow1, ?_⟩
      rw [List.length_map]
      refine ite2 (fun c3 => tl _ (.int i) _ _ s2 (bad "count" (by unfold rowBad; rw [if_pos (by omega)]) _ (Same.refl _)) _ fun R z => ⟨_, rfl, z⟩) fun c3 => ?_
      refine forSeqB hrow1 (fun j σ H1 => (∃ w4, σ = [some (.int n), some (.ref p), some (.int (i : Nat)), some (.ref t), w4]) ∧ Same (upd H' U (.tup [.int (i : Nat), .ref t])) H1 ∧ ∀ x ∈ rows[i].take j, isMsg n x = true) ⟨⟨_, rfl⟩, Same.refl _, fun x hx => by rw [List.take_zero] at hx; cases hx⟩ (fun i σ H' z => z.2.1) ?_ ?_
      · rintro j x σ H1 hx ⟨⟨w4, rfl⟩, s3, okj⟩
        obtain ⟨m, hm, rfl⟩ := map_at hx
        simp only [tSeq, tAsg, tRet, tRetN, tDrop, tIfS, tNext, tNever, tOp, tUn, tVar, tC, rI0, rI, rU, tTest, tIf, tB, tAnd, tOr, tNot, tAndV, tOrV, tNotV, gName, gSub, gTupH, gCons, gNil, tYes, tCons, tNil, tLst, tTup, tCB, tCall, tMeth, tMake, tFld, sFld, tFor_c, tLc_c, iRng1, iList, iTup, iStr, iSeqB, iEnumB, tM1, tSl, tPart, tNoPart, rSlS, rIxS, tBM, rAppend, tIf, rEq, rNe, scal, hIx, hIxT, hIxB, hSet, hInt, hIntB, hLen, hLenT, hLenB, L2.start, wipe, List.map_cons, List.map_nil, List.set_cons_zero, List.set_cons_succ, List.set_nil, List.length_cons, List.length_nil, List.length_map, List.cons_append, List.nil_append, List.append_nil, List.replicate, List.getElem?_cons_zero, List.getElem?_cons_succ, Option.some.injEq, V.int.injEq, V.bl.injEq, V.ref.injEq, V.str.injEq, List.cons.injEq, exists_eq_left', exists_eq_left, exists_and_left, and_assoc, upd_same, upd_upd, HO.lst.injEq, HO.tup.injEq, atI_0, atI_1, atI_2, atI_3, set_1, set_2, set_3, CDiv, CPow, CMul, List.length_set, Int.reduceToNat, Int.reduceLE, Int.reduceLT, Int.reducePow, Int.reduceNeg, Nat.reduceAdd, Nat.reduceLT, Nat.reduceLeDiff, Nat.reducePow, Nat.zero_add, or_true, true_or, gt_iff_lt, ge_iff_le, and_true, true_and, decide_eq_true_eq, if_true, Bool.false_eq_true, if_false]
        refine ⟨n, m, rfl, fun H2 s4 => ?_⟩
        refine ⟨_, rfl, ?_⟩
        by_cases e : isMsg n m = true
        · rw [e]
          refine iteF ⟨⟨_, rfl⟩, Same.tr s3 s4, fun x hx => ?_⟩
          rw [take_s hm] at hx
          rcases List.mem_append.mp hx with z | z
          · exact okj x z
          · rw [List.mem_singleton.mp z]
            exact e
        · rw [Bool.eq_false_iff.mpr e]
          refine iteT ?_
          refine tl _ (.int i) _ _ (Same.tr s2 (Same.tr s3 s4)) (bad "message" ?_ _ (Same.tr s3 s4)) _ fun R z => ⟨_, rfl, z⟩
          unfold rowBad
          rw [if_neg (by omega), if_neg]
          intro z
          exact e (List.all_eq_true.mp z m (List.mem_of_getElem? hm))
      · rintro σ H1 ⟨⟨w4, rfl⟩, s3, okj⟩
        rw [List.length_map, List.take_length] at okj
        refine ⟨⟨_, _, _, rfl⟩, Same.tr s2 s3, fun x hx => ?_⟩
        rw [take_s hri] at hx
        rcases List.mem_append.mp hx with z | z
        · exact ok x z
        · rw [List.mem_singleton.mp z]
          unfold rowBad
          rw [if_neg (by omega), if_pos (List.all_eq_true.mpr okj)]
    · rintro σ H' ⟨_, hs, ok⟩
      rw [el, List.take_length] at ok
      exact q1 (by omega) (by omega) ok H' hs
end
end AK
set_option Elab.async false
set_option linter.all false
set_option maxRecDepth 100000
set_option maxHeartbeats 4000000
namespace AK
open PySem PySem.Spec PyProof.Rows L2
section
variable {P : Program} {w : World} {K : PySem.W.Frag} {mg : Str → Option Value} {base : Heap} {a : Ads}
def spCL (C : Addr) : Sp := fun vs H Q E => ∃ (m : Int) (p : Addr) (links : List Str), vs = [.int m, .ref p] ∧ RowAt H p (links.map V.str) ∧ (∀ x ∈ links, x.length ≤ 1000) ∧
  (links.length ≤ 16 → (∀ x ∈ links, isLnk m (lt x) = true) → ∀ H', Same H H' → Q .non H') ∧
  (16 < links.length → ∀ d H', BadAt H H' d (.str "links") .non (.str "count") → E (.ref C) (some d) H') ∧
  (∀ (i : Nat) (x : Str), links.length ≤ 16 → links[i]? = some x → (∀ y ∈ links.take i, isLnk m (lt y) = true) → isLnk m (lt x) = false → ∀ d H', BadAt H H' d (.str "links") (.int i) (.str "link") → E (.ref C) (some d) H')
theorem ok_check_links (T : Txt K mg a) : FnOk P w K mg base (L2.CX P w) 3 a.a_check_links a.d_check_links ["nodes", "links"] (spCL a.c_BadNetwork) := by
  have G_BadNetwork_init := ok_BadNetwork (P := P) (w := w) (base := base) T
  have G_is_link := ok_is_link (P := P) (w := w) (base := base) T
  refine T.F_check_links.okX sc_check_links (fun vs H Q E h => ?_) (fun cdv A outer s H vs Q E hr h => ?_)
  · obtain ⟨_, _, _, rfl, _⟩ := h
    rfl
  · obtain ⟨m, p, links, rfl, hp, hsz, q1, q2, q3⟩ := h
    refine ⟨_, (pss_cons (ps_if (pt_cmpR op_gt (pe_callB callLenB (by rfl) T.z_len PySem.boot_len (pa_cons (pv 1) pa_nil)) (pe_glob (v := .int _) rfl T.m_MOST_LINKS ⟨_, rfl⟩) (nomark _))
      (pss_one (ps_raise rfl (takes_of rfl rfl rfl rfl) (pmk_oex T.O_BadNetwork T.I_BadNetwork_init T.T_BadNetwork_init G_BadNetwork_init (hr.mono (by first | decide | exact Nat.le_refl _ | omega)) T.b_BadNetwork_init .nil pass0 (by rfl) T.g_BadNetwork (pa_cons pe_str (pa_cons pe_non (pa_cons pe_str pa_nil))))))
      pss_nil)
      (pss_one (ps_for (passes_of rfl) rfl (pi_enumB (by rfl) T.z_enumerate (pa_cons (pv 1) pa_nil)) (pg_tupH (n := 2) (by rfl) (pgs_cons (pg_name (i := 2) sc_check_links.nd rfl (.inl rfl)) (pgs_cons (pg_name (i := 3) sc_check_links.nd rfl (.inl rfl)) pgs_nil)))
      (pss_one (ps_if (pt_not (pt_val (pe_call G_is_link (hr.mono (by first | decide | exact Nat.le_refl _ | omega)) (by rfl) T.g_is_link T.F_is_link.kp T.b_is_link .nil pass0 (pa_cons (pv 0) (pa_cons (pv 3) pa_nil)))))
      (pss_one (ps_raise rfl (takes_of rfl rfl rfl rfl) (pmk_oex T.O_BadNetwork T.I_BadNetwork_init T.T_BadNetwork_init G_BadNetwork_init (hr.mono (by first | decide | exact Nat.le_refl _ | omega)) T.b_BadNetwork_init .nil pass0 (by rfl) T.g_BadNetwork (pa_cons pe_str (pa_cons (pv 2) (pa_cons pe_str pa_nil))))))
      pss_nil))))), ?_⟩
    simp only [tSeq, tAsg, tRet, tRetN, tDrop, tIfS, tNext, tNever, tOp, tUn, tVar, tC, rI0, rI, rU, tTest, tIf, tB, tAnd, tOr, tNot, tAndV, tOrV, tNotV, gName, gSub, gTupH, gCons, gNil, tYes, tCons, tNil, tLst, tTup, tCB, tCall, tMeth, tMake, tFld, sFld, tFor_c, tLc_c, iRng1, iList, iTup, iStr, iSeqB, iEnumB, tM1, tSl, tPart, tNoPart, rSlS, rIxS, tBM, rAppend, tIf, rEq, rNe, scal, hIx, hIxT, hIxB, hSet, hInt, hIntB, hLen, hLenT, hLenB, L2.start, wipe, List.map_cons, List.map_nil, List.set_cons_zero, List.set_cons_succ, List.set_nil, List.length_cons, List.length_nil, List.length_map, List.cons_append, List.nil_append, List.append_nil, List.replicate, List.getElem?_cons_zero, List.getElem?_cons_succ, Option.some.injEq, V.int.injEq, V.bl.injEq, V.ref.injEq, V.str.injEq, List.cons.injEq, exists_eq_left', exists_eq_left, exists_and_left, and_assoc, upd_same, upd_upd, HO.lst.injEq, HO.tup.injEq, atI_0, atI_1, atI_2, atI_3, set_1, set_2, set_3, CDiv, CPow, CMul, List.length_set, Int.reduceToNat, Int.reduceLE, Int.reduceLT, Int.reducePow, Int.reduceNeg, Nat.reduceAdd, Nat.reduceLT, Nat.reduceLeDiff, Nat.reducePow, Nat.zero_add, or_true, true_or, gt_iff_lt, ge_iff_le, and_true, true_and, decide_eq_true_eq, if_true, Bool.false_eq_true, if_false]
    have el : (links.map V.str).length = links.length := List.length_map _
    refine ⟨_, hp, ?_⟩
    rw [el]
    refine ite2 (fun c => ⟨Nat.le_of_ble_eq_true rfl, mk_bad (q2 (by omega))⟩) fun c => ?_
    refine forEnumB hp (fun i σ H' => (∃ v2 v3, σ = [some (.int m), some (.ref p), v2, v3]) ∧ Same H H' ∧ ∀ x ∈ links.take i, isLnk m (lt x) = true) ⟨⟨none, none, rfl⟩, Same.refl _, fun x hx => by rw [List.take_zero] at hx; cases hx⟩ (fun i σ H' z => z.2.1) ?_ ?_
    · rintro i x U σ H' hx ⟨⟨v2, v3, rfl⟩, hs, ok⟩ hU
      obtain ⟨t, ht, rfl⟩ := map_at hx
      have s2 : Same H (upd H' U (.tup [.int (i : Nat), .str t])) := Same.tr hs (same_new hU)
      simp only [tSeq, tAsg, tRet, tRetN, tDrop, tIfS, tNext, tNever, tOp, tUn, tVar, tC, rI0, rI, rU, tTest, tIf, tB, tAnd, tOr, tNot, tAndV, tOrV, tNotV, gName, gSub, gTupH, gCons, gNil, tYes, tCons, tNil, tLst, tTup, tCB, tCall, tMeth, tMake, tFld, sFld, tFor_c, tLc_c, iRng1, iList, iTup, iStr, iSeqB, iEnumB, tM1, tSl, tPart, tNoPart, rSlS, rIxS, tBM, rAppend, tIf, rEq, rNe, scal, hIx, hIxT, hIxB, hSet, hInt, hIntB, hLen, hLenT, hLenB, L2.start, wipe, List.map_cons, List.map_nil, List.set_cons_zero, List.set_cons_succ, List.set_nil, List.length_cons, List.length_nil, List.length_map, List.cons_append, List.nil_append, List.append_nil, List.replicate, List.getElem?_cons_zero, List.getElem?_cons_succ, Option.some.injEq, V.int.injEq, V.bl.injEq, V.ref.injEq, V.str.injEq, List.cons.injEq, exists_eq_left', exists_eq_left, exists_and_left, and_assoc, upd_same, upd_upd, HO.lst.injEq, HO.tup.injEq, atI_0, atI_1, atI_2, atI_3, set_1, set_2, set_3, CDiv, CPow, CMul, List.length_set, Int.reduceToNat, Int.reduceLE, Int.reduceLT, Int.reducePow, Int.reduceNeg, Nat.reduceAdd, Nat.reduceLT, Nat.reduceLeDiff, Nat.reducePow, Nat.zero_add, or_true, true_or, gt_iff_lt, ge_iff_le, and_true, true_and, decide_eq_true_eq, if_true, Bool.false_eq_true, if_false]
      refine ⟨m, t, rfl, hsz t (List.mem_of_getElem? ht), _, rfl, ?_⟩
      by_cases e : isLnk m (lt t) = true
      · rw [e]
        refine iteF ⟨⟨_, rfl⟩, s2, fun x hx => ?_⟩
        rw [take_s ht] at hx
        rcases List.mem_append.mp hx with z | z
        · exact ok x z
        · rw [List.mem_singleton.mp z]
          exact e
      · rw [Bool.eq_false_iff.mpr e]
        refine iteT ⟨_, rfl, Nat.le_of_ble_eq_true rfl, mk_bad fun d H1 hb => q3 i t (by omega) ht ok (Bool.eq_false_iff.mpr e) d H1 ⟨Same.tr s2 hb.1, hb.2⟩⟩
    · rintro σ H' ⟨_, hs, ok⟩
      rw [el, List.take_length] at ok
      exact q1 (by omega) ok H' hs
/-! ### Network(variables, nodes, links) -/
inductive Wrong (n : Int) (rows : List (List Str)) (links : List Str) : V → V → V → Prop where
  | vars (h : n < 0 ∨ 6 < n) : Wrong n rows links (.str "variables") .non (.str "range")
  | nodes (h0 : 0 ≤ n ∧ n ≤ 6) (h : rows.length < 1 ∨ 6 < rows.length) : Wrong n rows links (.str "nodes") .non (.str "count")
  | row (h0 : 0 ≤ n ∧ n ≤ 6) (h1 : 1 ≤ rows.length ∧ rows.length ≤ 6) {i : Nat} {r : List Str} {why : Str} (hi : rows[i]? = some r) (ok : ∀ x ∈ rows.take i, rowBad n x = none) (b : rowBad n r = some why) : Wrong n rows links (.str "nodes") (.int i) (.str why)
  | links (h0 : 0 ≤ n ∧ n ≤ 6) (h1 : 1 ≤ rows.length ∧ rows.length ≤ 6) (h2 : ∀ r ∈ rows, rowBad n r = none) (h : 16 < links.length) : Wrong n rows links (.str "links") .non (.str "count")
  | link (h0 : 0 ≤ n ∧ n ≤ 6) (h1 : 1 ≤ rows.length ∧ rows.length ≤ 6) (h2 : ∀ r ∈ rows, rowBad n r = none) (h3 : links.length ≤ 16) {i : Nat} {x : Str} (hi : links[i]? = some x) (ok : ∀ y ∈ links.take i, isLnk rows.length (lt y) = true) (b : isLnk rows.length (lt x) = false) :
      Wrong n rows links (.str "links") (.int i) (.str "link")
structure Right (n : Int) (rows : List (List Str)) (links : List Str) : Prop where
  h0 : 0 ≤ n ∧ n ≤ 6
  h1 : 1 ≤ rows.length ∧ rows.length ≤ 6
  h2 : ∀ r ∈ rows, rowBad n r = none
  h3 : links.length ≤ 16
  h4 : ∀ x ∈ links, isLnk rows.length (lt x) = true
/-- all is as it was but for what stands at P and p -/
def Off (P p : Addr) (H H' : Hp) : Prop := ∀ b o, b ≠ P → b ≠ p → H b = some o → H' b = some o
def spNet (C CB tb : Addr) : Sp := fun vs H Q E => ∃ (p dx : Addr) (n : Int) (pn pl : Addr) (rows : List (List Str)) (links : List Str), vs = [.ref p, .int n, .ref pn, .ref pl] ∧ H p = some (.ins C dx []) ∧ ArgAt H pn rows ∧ RowAt H pl (links.map V.str) ∧
  (∀ x ∈ links, x.length ≤ 1000) ∧ GxR.TabG H tb ∧ (Right n rows links → ∀ H', Off tb p H H' → GxR.TabG H' tb → NetAt C H' p n rows links → Q .non H') ∧ (∀ v1 v2 v3, Wrong n rows links v1 v2 v3 → ∀ d H', BadAt H H' d v1 v2 v3 → E (.ref CB) (some d) H')
theorem tab_same {H H' : Hp} {tb : Addr} (h : GxR.TabG H tb) (s : Same H H') : GxR.TabG H' tb := by
  obtain ⟨ps, e, t⟩ := h
  exact ⟨ps, s _ _ e, t⟩
theorem look_put (f g : Str) (v : V) (fs : List (Str × V)) : look (putF f v fs) g = if g = f then some v else look fs g := lookup_putF f g v fs
theorem ok_Network (T : Txt K mg a) (hT : GxR.TabB base mg a.cG_Network_init a.tG_Network_init) : FnOk P w K mg base (L2.CX P w) 4 a.a_Network_init a.d_Network_init ["self", "variables", "nodes", "links"] (spNet a.c_Network a.c_BadNetwork a.tG_Network_init) := by
  have G_check_variables := ok_check_variables (P := P) (w := w) (base := base) T
  have G_check_nodes := ok_check_nodes (P := P) (w := w) (base := base) T
  have G_check_links := ok_check_links (P := P) (w := w) (base := base) T
  refine T.FC_Network_init.okC sc_Network_init (fun vs H Q E h => ?_) (fun A outer s H vs Q E hr h => ?_)
  · obtain ⟨_, _, _, _, _, _, _, rfl, _⟩ := h
    rfl
  · obtain ⟨p, dx, n, pn, pl, rows, links, rfl, hp, hA, hL, hsz, hTb, q1, q2⟩ := h
    refine ⟨_, (pss_cons (ps_expr (pe_call G_check_variables (hr.mono (by first | decide | exact Nat.le_refl _ | omega)) (by rfl) T.g_check_variables T.F_check_variables.kp T.b_check_variables .nil (passes_call (E := E) (takes_of rfl rfl rfl rfl) (fun _ _ _ _ z => z)) (pa_cons (pv 1) pa_nil)))
      (pss_cons (ps_expr (pe_call G_check_nodes (hr.mono (by first | decide | exact Nat.le_refl _ | omega)) (by rfl) T.g_check_nodes T.F_check_nodes.kp T.b_check_nodes .nil (passes_call (E := E) (takes_of rfl rfl rfl rfl) (fun _ _ _ _ z => z)) (pa_cons (pv 1) (pa_cons (pv 2) pa_nil))))
      (pss_cons (ps_expr (pe_call G_check_links (hr.mono (by first | decide | exact Nat.le_refl _ | omega)) (by rfl) T.g_check_links T.F_check_links.kp T.b_check_links .nil (passes_call (E := E) (takes_of rfl rfl rfl rfl) (fun _ _ _ _ z => z)) (pa_cons (pe_callB callLenB (by rfl) T.z_len PySem.boot_len (pa_cons (pv 2) pa_nil)) (pa_cons (pv 3) pa_nil))))
      (pss_cons (ps_fld (pv 0) (pv 1) rfl)
      (pss_cons (ps_fld (pv 0) (pe_tupG hr (by rfl) T.z_tuple hT rfl ⟨rfl, rfl, by decide +kernel, by decide +kernel, by decide +kernel, fun y hy e => (free_no (by decide +kernel) y hy e).elim⟩ (pv 2) (by decide +kernel) (by decide +kernel) (by intro _; rfl)) rfl)
      (pss_one (ps_fld (pv 0) (pe_callTy callTupB (by rfl) T.z_tuple (by decide +kernel) (pa_cons (pv 3) pa_nil)) rfl))))))), ?_⟩
    simp only [tSeq, tAsg, tRet, tRetN, tDrop, tIfS, tNext, tNever, tOp, tUn, tVar, tC, rI0, rI, rU, tTest, tIf, tB, tAnd, tOr, tNot, tAndV, tOrV, tNotV, gName, gSub, gTupH, gCons, gNil, tYes, tCons, tNil, tLst, tTup, tCB, tCall, tMeth, tMake, tFld, sFld, tFor_c, tLc_c, iRng1, iList, iTup, iStr, iSeqB, iEnumB, tM1, tSl, tPart, tNoPart, rSlS, rIxS, tBM, rAppend, tIf, rEq, rNe, scal, hIx, hIxT, hIxB, hSet, hInt, hIntB, hLen, hLenT, hLenB, L2.start, wipe, List.map_cons, List.map_nil, List.set_cons_zero, List.set_cons_succ, List.set_nil, List.length_cons, List.length_nil, List.length_map, List.cons_append, List.nil_append, List.append_nil, List.replicate, List.getElem?_cons_zero, List.getElem?_cons_succ, Option.some.injEq, V.int.injEq, V.bl.injEq, V.ref.injEq, V.str.injEq, List.cons.injEq, exists_eq_left', exists_eq_left, exists_and_left, and_assoc, upd_same, upd_upd, HO.lst.injEq, HO.tup.injEq, atI_0, atI_1, atI_2, atI_3, set_1, set_2, set_3, CDiv, CPow, CMul, List.length_set, Int.reduceToNat, Int.reduceLE, Int.reduceLT, Int.reducePow, Int.reduceNeg, Nat.reduceAdd, Nat.reduceLT, Nat.reduceLeDiff, Nat.reducePow, Nat.zero_add, or_true, true_or, gt_iff_lt, ge_iff_le, and_true, true_and, decide_eq_true_eq, if_true, Bool.false_eq_true, if_false]
    refine ⟨n, rfl, fun n0 n6 => ?_, fun h d H' hb => q2 _ _ _ (.vars h) d H' hb⟩
    refine ⟨n, pn, rows, rfl, hA, fun l1 l6 hrows H1 s1 => ?_, fun h d H' hb => q2 _ _ _ (.nodes ⟨n0, n6⟩ h) d H' hb, fun i r why l1 l6 hi ok b d H' hb => q2 _ _ _ (.row ⟨n0, n6⟩ ⟨l1, l6⟩ hi ok b) d H' hb⟩
    obtain ⟨as, hp1, hal, hrow⟩ := (hA.same s1).ex
    have el : (as.map V.ref).length = rows.length := by rw [List.length_map, hal]
    refine ⟨_, hp1, ?_⟩
    rw [el]
    refine ⟨_, pl, links, rfl, row_same hL s1, hsz, fun lk ok H2 s2 => ?_, fun h d H' hb => q2 _ _ _ (.links ⟨n0, n6⟩ ⟨l1, l6⟩ hrows h) d H' ⟨Same.tr s1 hb.1, hb.2⟩, fun i x lk hi ok b d H' hb => q2 _ _ _ (.link ⟨n0, n6⟩ ⟨l1, l6⟩ hrows lk hi ok b) d H' ⟨Same.tr s1 hb.1, hb.2⟩⟩
    have s3 := Same.tr s1 s2
    obtain ⟨ps, hps, hps2⟩ := hTb
    have pP : a.tG_Network_init ≠ p := fun z => by
      rw [z, hp] at hps
      cases hps
    refine ⟨_, _, _, s3 _ _ hp, T.C_Network, T.n_Network_variables, by decide, ?_⟩
    -- what is kept of H
    have k1 : ∀ o b u, b ≠ p → H b = some u → upd H2 p o b = some u := fun o b u hb e => by
      rw [upd_ne hb]
      exact s3 _ _ e
    have hpn : ∀ {b : Addr} {xs : List V}, RowAt H b xs → b ≠ p := fun {b xs} h z => by
      rw [z] at h
      rcases h with h | h <;> (rw [hp] at h; cases h)
    obtain ⟨as0, hp0, hal0, hrow0⟩ := hA.ex
    refine ⟨_, rfl, pn, as0, rows.map (fun r => r.map V.str), rfl, ?_, ?_, ?_, ?_, ?_, ?_⟩
    · exact hp0.imp (k1 _ _ _ (hpn hp0)) (k1 _ _ _ (hpn hp0))
    · rw [List.length_map, hal0]
    · rw [hal0]
      exact sizeLe (by omega)
    · intro i b row hb hw
      obtain ⟨r, hr2, rfl⟩ := map_at hw
      have z := hrow0 i r b hr2 hb
      exact z.imp (k1 _ _ _ (hpn z)) (k1 _ _ _ (hpn z))
    · exact ⟨ps, k1 _ _ _ pP hps, hps2⟩
    · intro H3 t bs kk tab ht1 ht2 hbl hbr
      refine ⟨_, _, _, kk p _ pP.symm upd_same, T.C_Network, T.n_Network_nodes, ?_, ?_⟩
      · exact Nat.lt_of_le_of_lt (length_putF _ _ _) (by decide)
      have tp : t ≠ p := fun z => by
        rw [z, upd_same] at ht1
        cases ht1
      have tP : t ≠ a.tG_Network_init := fun z => by
        obtain ⟨ps', e', _⟩ := tab
        rw [← z, ht2] at e'
        cases e'
      refine ⟨pl, links.map V.str, rfl, ?_, ?_⟩
      · have z : ∀ {o : HO}, H pl = some o → upd H3 p (HO.ins a.c_Network dx (putF "nodes" (V.ref t) (putF "variables" (V.int n) []))) pl = some o := fun {o} e => by
          rw [upd_ne (hpn hL)]
          refine kk _ _ (fun zz => ?_) (k1 _ _ _ (hpn hL) e)
          rw [zz] at hL
          rcases hL with hL | hL <;> (rw [hps] at hL; cases hL)
        exact hL.imp z z
      intro tl H4 s4 htl1 htl2
      refine ⟨_, _, _, s4 _ _ upd_same, T.C_Network, T.n_Network_links, ?_, ?_⟩
      · refine Nat.lt_of_le_of_lt (length_putF _ _ _) ?_
        have := length_putF "nodes" (V.ref t) (putF "variables" (V.int n) [])
        have := length_putF "variables" (V.int n) []
        simp only [List.length_nil] at this
        omega
      have tlp : tl ≠ p := fun z => by
        rw [z] at htl2
        have := s4 _ _ (upd_same (H := H3) (a := p) (o := HO.ins a.c_Network dx (putF "nodes" (V.ref t) (putF "variables" (V.int n) []))))
        rw [htl2] at this
        cases this
      have bp : ∀ {b : Addr} {xs : List V}, H3 b = some (.tup xs) → b ≠ p := fun {b xs} e z => by
        rw [z, kk p _ pP.symm upd_same] at e
        cases e
      have k4 : ∀ o b u, b ≠ p → H3 b = some u → upd H4 p o b = some u := fun o b u hb e => by
        rw [upd_ne hb]
        refine s4 _ _ ?_
        rw [upd_ne hb]
        exact e
      refine q1 ⟨⟨n0, n6⟩, ⟨l1, l6⟩, hrows, lk, ok⟩ _ ?_ ?_ ⟨dx, t, tl, bs, _, upd_same, ?_, ?_, ?_, ?_, ?_, ?_, ?_, k4 _ _ _ tp ht2, ?_, ?_, ?_⟩
      · intro b o hb1 hb2 e
        exact k4 _ _ _ hb2 (kk _ _ hb1 (k1 _ _ _ hb2 e))
      · obtain ⟨ps', e', t'⟩ := tab
        exact ⟨ps', k4 _ _ _ pP e', t'⟩
      · rw [look_put, if_neg (by decide +kernel), look_put, if_neg (by decide +kernel), look_put, if_pos rfl]
      · rw [look_put, if_neg (by decide +kernel), look_put, if_pos rfl]
      · rw [look_put, if_pos rfl]
      · rw [look_put, if_neg (by decide +kernel), look_put, if_neg (by decide +kernel), look_put, if_neg (by decide +kernel)]
        rfl
      · rw [look_put, if_neg (by decide +kernel), look_put, if_neg (by decide +kernel), look_put, if_neg (by decide +kernel)]
        rfl
      · rw [look_put, if_neg (by decide +kernel), look_put, if_neg (by decide +kernel), look_put, if_neg (by decide +kernel)]
        rfl
      · rw [look_put, if_neg (by decide +kernel), look_put, if_neg (by decide +kernel), look_put, if_neg (by decide +kernel)]
        rfl
      · rw [upd_ne tlp]
        exact htl2
      · rw [hbl, List.length_map]
      · intro i r b hr hb
        have z := hbr i b (r.map V.str) hb (by rw [List.getElem?_map, hr]; rfl)
        exact k4 _ _ _ (bp z) z
end
end AK
set_option Elab.async false
set_option linter.all false
set_option maxRecDepth 100000
set_option maxHeartbeats 4000000
namespace AK
open PySem PySem.Spec PyProof.Rows L2
theorem AN_len : AN.length = 26 := by decide +kernel
theorem idx_all : (List.range 7).all (fun L => (List.range L).all fun k => decide (Txt.index0 (tx (AN.take L)) (tx [AN.getD k 0]) = some k)) = true := by decide +kernel
theorem idx_AN {L k : Nat} {c : Nat} (hL : L ≤ 6) (h : (AN.take L)[k]? = some c) : Txt.index0 (tx (AN.take L)) (tx [c]) = some k := by
  have hk : k < L := by
    have := (List.getElem?_eq_some_iff.mp h).1
    rw [List.length_take] at this
    omega
  have z := List.all_eq_true.mp (List.all_eq_true.mp idx_all L (List.mem_range.mpr (by omega))) k (List.mem_range.mpr hk)
  have e : AN.getD k 0 = c := by
    rw [List.getElem?_take, if_pos hk] at h
    rw [List.getD_eq_getElem?_getD, h]
    rfl
  rw [e] at z
  exact of_decide_eq_true z
theorem one_of {x : Str} (h : x.length = 1) : ∃ c, x = tx [c] := by
  rw [← len_lt] at h
  obtain ⟨c, e⟩ := List.length_eq_one_iff.mp h
  exact ⟨c, by rw [← tx_lt x, e]⟩
section
variable {P : Program} {w : World} {K : PySem.W.Frag} {mg : Str → Option Value} {base : Heap} {a : Ads}
def spNN (C CN : Addr) : Sp := fun vs H Q E => ∃ (p : Addr) (n : Int) (rows : List (List Str)) (links : List Str) (x : Str), vs = [.ref p, .str x] ∧ NetAt C H p n rows links ∧ rows.length ≤ 6 ∧ x.length ≤ 100 ∧ (∀ c ∈ lt x, c < 1000) ∧
  (∀ (k c : Nat), x = tx [c] → (AN.take rows.length)[k]? = some c → Q (.int k) H) ∧ ((∀ c, x = tx [c] → ¬ c ∈ AN.take rows.length) → E (.ref CN) none H)
theorem ok_node_number (T : Txt K mg a) : FnOk P w K mg base (L2.CX P w) 3 a.a_node_number a.d_node_number ["network", "node"] (spNN a.c_Network a.c_NoNode) := by
  have G_Network_node_letters := ok_node_letters (P := P) (w := w) (base := base) T
  refine T.F_node_number.okX sc_node_number (fun vs H Q E h => ?_) (fun cdv A outer s H vs Q E hr h => ?_)
  · obtain ⟨_, _, _, _, _, rfl, _⟩ := h
    rfl
  · obtain ⟨p, n, rows, links, x, rfl, hN, h6, hx, hch, q1, q2⟩ := h
    obtain ⟨dx, tn, tl, as, fs, h1, h2, h3, h4, h5, hN'⟩ := hN.ex
    refine ⟨_, (pss_cons (ps_set (i := 2) sc_node_number.nd rfl (.inl rfl) (pe_meth0 (pv 0) T.C_Network T.M_Network_node_letters G_Network_node_letters (hr.mono (by first | decide | exact Nat.le_refl _ | omega)) T.b_Network_node_letters .nil pass0))
      (pss_cons (ps_if (PW.pt (pw_or (pt_cmpR op_ne (pe_callB call_len_str (by rfl) T.z_len PySem.boot_len (pa_cons (pv 1) pa_nil)) pe_int (nomark _)) (pw_or1 (pt_cmpR op_notIn_sign (pv 1) (pv 2) rfl))))
      (pss_one (ps_raise rfl (takes_of rfl rfl rfl rfl) (SkE.pmk_own1 PySem.F.excBase_ValueError T.N_NoNode T.g_NoNode T.X_NoNode.kp T.X_NoNode.raises (by rfl) (pe_joined (PJ.cons pe_str (PJ.cons (pe_fmt (pv 2)) (PJ.cons pe_str (PJ.cons (pe_fmtR (pv 1)) PJ.nil))))))))
      pss_nil)
      (pss_one (ps_ret (pe_bmS PySem.F.plainAttrs_str PySem.F.slot_str_index PySem.F.type_str_index (mt_indexX rfl (takes_of rfl rfl rfl rfl)) (pv 2) (pa_cons (pv 1) pa_nil)))))), ?_⟩
    simp only [tSeq, tAsg, tRet, tRetN, tDrop, tIfS, tNext, tNever, tOp, tUn, tVar, tC, rI0, rI, rU, tTest, tIf, tB, tAnd, tOr, tNot, tAndV, tOrV, tNotV, gName, gSub, gTupH, gCons, gNil, tYes, tCons, tNil, tLst, tTup, tCB, tCall, tMeth, tMake, tFld, sFld, tFor_c, tLc_c, iRng1, iList, iTup, iStr, iSeqB, iEnumB, tM1, tSl, tPart, tNoPart, rSlS, rIxS, tBM, rAppend, tIf, rEq, rNe, scal, hIx, hIxT, hIxB, hSet, hInt, hIntB, hLen, hLenT, hLenB, L2.start, wipe, List.map_cons, List.map_nil, List.set_cons_zero, List.set_cons_succ, List.set_nil, List.length_cons, List.length_nil, List.length_map, List.cons_append, List.nil_append, List.append_nil, List.replicate, List.getElem?_cons_zero, List.getElem?_cons_succ, Option.some.injEq, V.int.injEq, V.bl.injEq, V.ref.injEq, V.str.injEq, List.cons.injEq, exists_eq_left', exists_eq_left, exists_and_left, and_assoc, upd_same, upd_upd, HO.lst.injEq, HO.tup.injEq, atI_0, atI_1, atI_2, atI_3, set_1, set_2, set_3, CDiv, CPow, CMul, List.length_set, Int.reduceToNat, Int.reduceLE, Int.reduceLT, Int.reducePow, Int.reduceNeg, Nat.reduceAdd, Nat.reduceLT, Nat.reduceLeDiff, Nat.reducePow, Nat.zero_add, or_true, true_or, gt_iff_lt, ge_iff_le, and_true, true_and, decide_eq_true_eq, if_true, Bool.false_eq_true, if_false]
    refine ⟨dx, fs, h1, h5, p, n, rows, links, rfl, hN, ?_⟩
    have ll : (tx (AN.take rows.length)).length ≤ 26 := by
      rw [len_tx, List.length_take, AN_len]
      omega
    have out : (∀ c, x = tx [c] → ¬ c ∈ AN.take rows.length) → tJs [tC (V.str "no node of "), tFmt (tVar 2), tC (V.str ": "), tFmtR (tVar 1)] Str.empty [some (V.ref p), some (V.str x), some (V.str (tx (AN.take rows.length)))] H fun out H1 => E (.ref a.c_NoNode) none H1 := by
      intro h
      have l1 : (Str.empty ++ ("no node of " : Str)).length = 11 := by decide +kernel
      have la : ∀ y z : Str, (y ++ z).length = y.length + z.length := fun y z => by
        show (y.cps ++ z.cps).size = _
        rw [Array.size_append]
        rfl
      have l2 : (": " : Str).length = 2 := by decide +kernel
      have lr : (reprText x).length ≤ 10 * x.length + 2 := StrLaws.reprText_len x fun c hc => Nat.lt_of_lt_of_le (hch c hc) (by decide)
      refine ⟨_, rfl, by rw [l1]; exact sizeLe (by omega), ?_⟩
      refine ⟨_, rfl, .inl ⟨_, rfl, sizeLe (by omega), ?_⟩⟩
      refine ⟨_, rfl, by rw [la, l1]; exact sizeLe (by omega), ?_⟩
      refine ⟨_, rfl, by rw [la, la, l1, l2]; exact sizeLe (by omega), ?_⟩
      refine ⟨_, rfl, .inl ⟨_, rfl, Nat.le_trans (show _ ≤ 1002 by omega) (by decide), ?_⟩⟩
      refine ⟨_, rfl, by rw [la, la, la, l1, l2]; exact Nat.le_trans (show _ ≤ 2000 by omega) (by decide), ?_⟩
      exact q2 h
    show x.length ≤ sizeLine ∧ _
    refine ⟨sizeLe (by omega), ?_⟩
    by_cases e : x.length = 1
    · obtain ⟨c, rfl⟩ := one_of e
      rw [decide_eq_true (by rw [e]; rfl)]
      refine iteF ⟨c, rfl, _, rfl, ?_⟩
      rw [show (tx (AN.take rows.length)).cps.toList = AN.take rows.length from rfl]
      by_cases hm : c ∈ AN.take rows.length
      · rw [decide_eq_true hm]
        obtain ⟨k, hk, ek⟩ := List.mem_iff_getElem.mp hm
        have ek' : (AN.take rows.length)[k]? = some c := by rw [List.getElem?_eq_getElem hk, ek]
        have z := idx_AN h6 ek'
        refine iteF ⟨_, rfl, rfl, _, rfl, _, _, rfl, rfl, fun k2 e2 => ?_, fun e2 => ?_⟩
        · rw [z] at e2
          cases e2
          exact q1 k c rfl ek'
        · rw [z] at e2
          cases e2
      · rw [decide_eq_false hm]
        refine iteT (out fun c' e' => ?_)
        have := tx_inj e'
        cases this
        exact hm
    · rw [decide_eq_false (fun z => e (by exact_mod_cast z))]
      refine iteT (out fun c' e' => ?_)
      exact absurd (by rw [e']; rfl) e
def spMs (C CN : Addr) : Sp := fun vs H Q E => ∃ (p : Addr) (n : Int) (rows : List (List Str)) (links : List Str) (k c : Nat) (r : List Str), vs = [.ref p, .str (tx [c])] ∧ NetAt C H p n rows links ∧ rows.length ≤ 6 ∧ c < 1000 ∧ (AN.take rows.length)[k]? = some c ∧ rows[k]? = some r ∧
  ∀ t, H t = some (.tup (r.map V.str)) → Q (.ref t) H
theorem ok_messages (T : Txt K mg a) : FnOk P w K mg base (L2.CX P w) 4 a.a_Network_messages a.d_Network_messages ["self", "node"] (spMs a.c_Network a.c_NoNode) := by
  have G_node_number := ok_node_number (P := P) (w := w) (base := base) T
  refine T.F_Network_messages.okX sc_Network_messages (fun vs H Q E h => ?_) (fun cdv A outer s H vs Q E hr h => ?_)
  · obtain ⟨_, _, _, _, _, _, _, rfl, _⟩ := h
    rfl
  · obtain ⟨p, n, rows, links, k, c, r, rfl, hN, h6, hc, hk, hr2, q⟩ := h
    obtain ⟨dx, tn, tl, as, fs, h1, h2, h3, h4, h5, h6', h7, h8, h9, h10, h11, h12⟩ := hN.ex
    refine ⟨_, (pss_one (ps_ret (pe_ix ixHT (pe_fld (pv 0) rfl) (pe_call G_node_number (hr.mono (by first | decide | exact Nat.le_refl _ | omega)) (by rfl) T.g_node_number T.F_node_number.kp T.b_node_number .nil (passes_call (E := E) (takes_of rfl rfl rfl rfl) (fun _ _ _ _ z => z)) (pa_cons (pv 0) (pa_cons (pv 1) pa_nil))) (fun _ _ => rfl)))), ?_⟩
    simp only [tSeq, tAsg, tRet, tRetN, tDrop, tIfS, tNext, tNever, tOp, tUn, tVar, tC, rI0, rI, rU, tTest, tIf, tB, tAnd, tOr, tNot, tAndV, tOrV, tNotV, gName, gSub, gTupH, gCons, gNil, tYes, tCons, tNil, tLst, tTup, tCB, tCall, tMeth, tMake, tFld, sFld, tFor_c, tLc_c, iRng1, iList, iTup, iStr, iSeqB, iEnumB, tM1, tSl, tPart, tNoPart, rSlS, rIxS, tBM, rAppend, tIf, rEq, rNe, scal, hIx, hIxT, hIxB, hSet, hInt, hIntB, hLen, hLenT, hLenB, L2.start, wipe, List.map_cons, List.map_nil, List.set_cons_zero, List.set_cons_succ, List.set_nil, List.length_cons, List.length_nil, List.length_map, List.cons_append, List.nil_append, List.append_nil, List.replicate, List.getElem?_cons_zero, List.getElem?_cons_succ, Option.some.injEq, V.int.injEq, V.bl.injEq, V.ref.injEq, V.str.injEq, List.cons.injEq, exists_eq_left', exists_eq_left, exists_and_left, and_assoc, upd_same, upd_upd, HO.lst.injEq, HO.tup.injEq, atI_0, atI_1, atI_2, atI_3, set_1, set_2, set_3, CDiv, CPow, CMul, List.length_set, Int.reduceToNat, Int.reduceLE, Int.reduceLT, Int.reducePow, Int.reduceNeg, Nat.reduceAdd, Nat.reduceLT, Nat.reduceLeDiff, Nat.reducePow, Nat.zero_add, or_true, true_or, gt_iff_lt, ge_iff_le, and_true, true_and, decide_eq_true_eq, if_true, Bool.false_eq_true, if_false]
    refine ⟨_, _, _, h1, T.C_Network, T.n_Network_nodes, _, h3, p, n, rows, links, tx [c], rfl, hN, h6, by show 1 ≤ 100; omega, fun y hy => ?_, fun k2 c2 e2 hk2 => ?_, fun hno => ?_⟩
    · rw [lt_tx] at hy
      rw [List.mem_singleton.mp hy]
      exact hc
    · cases tx_inj e2
      have hkk : k2 = k := by
        have z1 := idx_AN h6 hk
        have z2 := idx_AN h6 hk2
        rw [z1] at z2
        exact (Option.some.inj z2).symm
      subst hkk
      have hka : k2 < as.length := by
        rw [h11]
        exact (List.getElem?_eq_some_iff.mp hr2).1
      have ha : as[k2]? = some as[k2] := List.getElem?_eq_getElem hka
      refine ⟨tn, rfl, _, _, rfl, h9, _, atI_nat (by rw [List.getElem?_map, ha]; rfl), ?_⟩
      exact q _ (h12 k2 r _ hr2 ha)
    · exact absurd (List.mem_of_getElem? hk) (hno c rfl)
end
end AK
set_option Elab.async false
set_option linter.all false
set_option maxRecDepth 100000
set_option maxHeartbeats 4000000
namespace AK
open PySem PySem.Spec PyProof.Rows L2
section
variable {P : Program} {w : World} {K : PySem.W.Frag} {mg : Str → Option Value} {base : Heap} {a : Ads}
/-! the pool -/
def poolNum (z : Int) : Int := if 0 ≤ z then 2 * z else -2 * z - 1
theorem poolNum_nn (z : Int) : 0 ≤ poolNum z := by
  unfold poolNum
  split <;> omega
def spPoolP : Prop := True
structure Pool (G H : Hp) (p : Addr) : Prop where
  le : Same G H
  out : G p = none
  ex : ∃ (c : Addr) (cells : List Int) (i d x : Int), H p = some (.lst [.ref c, .int i, .int d, .int x]) ∧ G c = some (.lst (cells.map V.int)) ∧ (∀ z ∈ cells, 0 ≤ z) ∧ 0 ≤ i ∧ 0 ≤ d ∧ 0 ≤ x ∧ x < 2147483647
def spPool (K : PySem.W.Frag) : Sp := fun vs H Q _ => ∃ (a : Addr) (ns : List Int), vs = [.ref a] ∧ SqL K H a (ns.map V.int) ∧ ns.length ≤ 63 ∧ ∀ G H' p, Same H G → H p = none → Pool G H' p → Q (.ref p) H'
theorem ok_law_pool {f : Addr} {fd : FuncData} (F : Fun K "_law_pool" "_law_pool" s_law_pool f fd) : FnOk P w K mg base CX0 1 f fd ["script"] (spPool K) := by
  refine F.ok sc_law_pool (fun vs H Q E h => ?_) (fun cdv A outer s H vs Q E hr h => ?_)
  · obtain ⟨a, ns, rfl, _⟩ := h
    rfl
  · obtain ⟨a, ns, rfl, hS, hl, q⟩ := h
    refine ⟨_, (pss_one (ps_ret (pe_lst (pa_cons (pe_lc (own := [("cell", 1)]) (g := gName 1) (tt := tYes) rfl sc_law_pool.nd (pi_list (pv 0)) (blkOk_by (own := [("cell", 1)]) (N := sc_law_pool_N) (sc := defScope s_law_pool) (by decide +kernel)) (fun _ _ _ _ _ => (pg_name (i := 1) sc_law_pool.nd rfl (.inl rfl))) (fun _ _ _ _ _ => pts_nil) (fun _ _ _ _ _ => (pe_ifExp (pt_cmpR op_ge (pv 1) pe_int (nomark _)) (pe_op op_mul pe_int (pv 1)) (pe_op op_sub (pe_op op_mul (pe_un un_neg pe_int) (pv 1)) pe_int)))) (pa_cons pe_int (pa_cons pe_int (pa_cons pe_int pa_nil))))))), ?_⟩
    refine ⟨_, rfl, a, rfl, ⟨_, hS⟩, fun D hD => ?_⟩
    refine lc_list (K := K) (a := a) (xs := ns.map V.int) (fun i H' => ∃ o, H' = upd H D o ∧ o = .lst (((ns.take i).map poolNum).map V.int)) ⟨_, rfl, rfl⟩ ?_ ?_ ?_
    · rintro i H' _ ⟨o, rfl, _⟩
      exact (same_new hD).seq hS
    · rintro i x H' hx ⟨o, rfl, rfl⟩
      obtain ⟨z, hz, rfl⟩ := map_at hx
      refine ⟨rfl, ?_⟩
      simp only [tSeq, tAsg, tRet, tRetN, tDrop, tIfS, tNext, tNever, tOp, tUn, tVar, tC, rI0, rI, rU, tTest, tIf, tB, tAnd, tOr, tNot, tAndV, tOrV, tNotV, gName, gSub, gTupH, gCons, gNil, tYes, tCons, tNil, tLst, tTup, tCB, tCall, tMeth, tMake, tFld, sFld, tFor_c, tLc_c, iRng1, iList, iTup, iStr, iSeqB, iEnumB, tM1, tSl, tPart, tNoPart, rSlS, rIxS, tBM, rAppend, tIf, rEq, rNe, scal, hIx, hIxT, hIxB, hSet, hInt, hIntB, hLen, hLenT, hLenB, L2.start, wipe, List.map_cons, List.map_nil, List.set_cons_zero, List.set_cons_succ, List.set_nil, List.length_cons, List.length_nil, List.length_map, List.cons_append, List.nil_append, List.append_nil, List.replicate, List.getElem?_cons_zero, List.getElem?_cons_succ, Option.some.injEq, V.int.injEq, V.bl.injEq, V.ref.injEq, V.str.injEq, List.cons.injEq, exists_eq_left', exists_eq_left, exists_and_left, and_assoc, upd_same, upd_upd, HO.lst.injEq, HO.tup.injEq, atI_0, atI_1, atI_2, atI_3, set_1, set_2, set_3, CDiv, CPow, CMul, List.length_set, Int.reduceToNat, Int.reduceLE, Int.reduceLT, Int.reducePow, Int.reduceNeg, Nat.reduceAdd, Nat.reduceLT, Nat.reduceLeDiff, Nat.reducePow, Nat.zero_add, or_true, true_or, gt_iff_lt, ge_iff_le, and_true, true_and, decide_eq_true_eq, if_true, Bool.false_eq_true, if_false, *]
      have e1 : ((ns.take (i + 1)).map poolNum).map V.int = ((ns.take i).map poolNum).map V.int ++ [V.int (poolNum z)] := by
        rw [take_s hz, List.map_append, List.map_append]
        rfl
      have e2 : (((ns.take i).map poolNum).map V.int).length < sizeLine := by
        rw [List.length_map, List.length_map, List.length_take]
        exact small1000 (by omega)
      refine ite2 (fun c => ?_) (fun c => ?_)
      · refine ⟨by rw [List.length_map, List.length_map] at e2; exact e2, _, rfl, ?_⟩
        rw [e1]
        unfold poolNum
        rw [if_pos c]
      · refine ⟨by rw [List.length_map, List.length_map] at e2; exact e2, _, rfl, ?_⟩
        rw [e1]
        unfold poolNum
        rw [if_neg c]
    · rintro H' ⟨o, rfl, rfl⟩
      simp only [tSeq, tAsg, tRet, tRetN, tDrop, tIfS, tNext, tNever, tOp, tUn, tVar, tC, rI0, rI, rU, tTest, tIf, tB, tAnd, tOr, tNot, tAndV, tOrV, tNotV, gName, gSub, gTupH, gCons, gNil, tYes, tCons, tNil, tLst, tTup, tCB, tCall, tMeth, tMake, tFld, sFld, tFor_c, tLc_c, iRng1, iList, iTup, iStr, iSeqB, iEnumB, tM1, tSl, tPart, tNoPart, rSlS, rIxS, tBM, rAppend, tIf, rEq, rNe, scal, hIx, hIxT, hIxB, hSet, hInt, hIntB, hLen, hLenT, hLenB, L2.start, wipe, List.map_cons, List.map_nil, List.set_cons_zero, List.set_cons_succ, List.set_nil, List.length_cons, List.length_nil, List.length_map, List.cons_append, List.nil_append, List.append_nil, List.replicate, List.getElem?_cons_zero, List.getElem?_cons_succ, Option.some.injEq, V.int.injEq, V.bl.injEq, V.ref.injEq, V.str.injEq, List.cons.injEq, exists_eq_left', exists_eq_left, exists_and_left, and_assoc, upd_same, upd_upd, HO.lst.injEq, HO.tup.injEq, atI_0, atI_1, atI_2, atI_3, set_1, set_2, set_3, CDiv, CPow, CMul, List.length_set, Int.reduceToNat, Int.reduceLE, Int.reduceLT, Int.reducePow, Int.reduceNeg, Nat.reduceAdd, Nat.reduceLT, Nat.reduceLeDiff, Nat.reducePow, Nat.zero_add, or_true, true_or, gt_iff_lt, ge_iff_le, and_true, true_and, decide_eq_true_eq, if_true, Bool.false_eq_true, if_false, *]
      refine ⟨by show 3 + 1 ≤ sizeLine; decide, fun p hp => ?_⟩
      have hpD : p ≠ D := (ne_of_none upd_same hp).symm
      have hpn : H p = none := by rw [upd_ne hpD] at hp; exact hp
      refine q (upd H D (.lst ((ns.map poolNum).map V.int))) _ p (same_new hD) hpn ⟨?_, ?_, D, ns.map poolNum, 0, 0, 17, upd_same, upd_same, ?_, by decide, by decide, by decide, by decide⟩
      · rw [List.take_of_length_le (Nat.le_refl _)]
        exact same_new (by rw [upd_ne hpD]; exact hpn)
      · rw [upd_ne hpD]
        exact hpn
      · intro z hz
        obtain ⟨y, _, rfl⟩ := List.mem_map.mp hz
        exact poolNum_nn y
/-! a draw -/
def spTake (C : Int → Prop) : Sp := fun vs H Q _ => ∃ (p : Addr) (m : Int) (c : Addr) (cells : List Int) (i d x : Int), vs = [.ref p, .int m] ∧ 0 < m ∧ m < 1073741824 ∧
  H p = some (.lst [.ref c, .int i, .int d, .int x]) ∧ H c = some (.lst (cells.map V.int)) ∧ c ≠ p ∧ (∀ z ∈ cells, 0 ≤ z) ∧ 0 ≤ i ∧ 0 ≤ d ∧ 0 ≤ x ∧ x < 2147483647 ∧ C d ∧
  ∀ r i' d' x', 0 ≤ r → r < m → 0 ≤ i' → 0 ≤ d' → 0 ≤ x' → x' < 2147483647 → Q (.int r) (upd H p (.lst [.ref c, .int i', .int d', .int x']))
theorem ok_law_take0 (T : Txt K mg a) : FnOk P w K mg base CX0 1 a.a_law_take a.d_law_take ["pool", "many"] (spTake (fun d => 0 < d)) := by
  refine T.F_law_take.ok sc_law_take (fun vs H Q E h => ?_) (fun cdv A outer s H vs Q E hr h => ?_)
  · obtain ⟨p, m, c, cells, i, d, x, rfl, _⟩ := h
    rfl
  · obtain ⟨p, m, c, cells, i, d, x, rfl, hm, hm2, hp, hc, hcp, hcl, hi, hd, hx, hx2, hP, q⟩ := h
    refine ⟨_, (pss_cons (ps_if (pt_cmpR op_gt (pe_ix ixH (pv 0) pe_int (fun _ _ => rfl)) pe_int (nomark _))
      (pss_cons (ps_set (i := 2) sc_law_take.nd rfl (.inl rfl) (pe_op op_mod (pe_callTy callInt (by rfl) T.z_int (by decide +kernel) (pa_cons (pe_ix ixH (pv 0) pe_int (fun _ _ => rfl)) pa_nil)) (pv 1)))
      (pss_cons (ps_asg (pe_op op_fdiv (pe_ix ixH (pv 0) pe_int (fun _ _ => rfl)) (pv 1)) (pg_sub (pv 0) pe_int setH))
      (pss_one (ps_ret (pv 2)))))
      pss_nil)
      pss_never), ?_⟩
    simp only [tSeq, tAsg, tRet, tRetN, tDrop, tIfS, tNext, tNever, tOp, tUn, tVar, tC, rI0, rI, rU, tTest, tIf, tB, tAnd, tOr, tNot, tAndV, tOrV, tNotV, gName, gSub, gTupH, gCons, gNil, tYes, tCons, tNil, tLst, tTup, tCB, tCall, tMeth, tMake, tFld, sFld, tFor_c, tLc_c, iRng1, iList, iTup, iStr, iSeqB, iEnumB, tM1, tSl, tPart, tNoPart, rSlS, rIxS, tBM, rAppend, tIf, rEq, rNe, scal, hIx, hIxT, hIxB, hSet, hInt, hIntB, hLen, hLenT, hLenB, L2.start, wipe, List.map_cons, List.map_nil, List.set_cons_zero, List.set_cons_succ, List.set_nil, List.length_cons, List.length_nil, List.length_map, List.cons_append, List.nil_append, List.append_nil, List.replicate, List.getElem?_cons_zero, List.getElem?_cons_succ, Option.some.injEq, V.int.injEq, V.bl.injEq, V.ref.injEq, V.str.injEq, List.cons.injEq, exists_eq_left', exists_eq_left, exists_and_left, and_assoc, upd_same, upd_upd, HO.lst.injEq, HO.tup.injEq, atI_0, atI_1, atI_2, atI_3, set_1, set_2, set_3, CDiv, CPow, CMul, List.length_set, Int.reduceToNat, Int.reduceLE, Int.reduceLT, Int.reducePow, Int.reduceNeg, Nat.reduceAdd, Nat.reduceLT, Nat.reduceLeDiff, Nat.reducePow, Nat.zero_add, or_true, true_or, gt_iff_lt, ge_iff_le, and_true, true_and, decide_eq_true_eq, if_true, Bool.false_eq_true, if_false, *]
    exact q _ _ _ _ (Int.emod_nonneg _ (by omega)) (Int.emod_lt_of_pos _ hm) hi (Int.ediv_nonneg hd (by omega)) hx hx2
theorem ok_law_take (T : Txt K mg a) : FnOk P w K mg base CX0 2 a.a_law_take a.d_law_take ["pool", "many"] (spTake (fun _ => True)) := by
  have G_law_take : FnOk P w K mg base CX0 1 a.a_law_take a.d_law_take ["pool", "many"] (spTake (fun d => 0 < d)) := ok_law_take0 T
  refine T.F_law_take.ok sc_law_take (fun vs H Q E h => ?_) (fun cdv A outer s H vs Q E hr h => ?_)
  · obtain ⟨p, m, c, cells, i, d, x, rfl, _⟩ := h
    rfl
  · obtain ⟨p, m, c, cells, i, d, x, rfl, hm, hm2, hp, hc, hcp, hcl, hi, hd, hx, hx2, hP, q⟩ := h
    refine ⟨_, (pss_cons (ps_if (pt_cmpR op_gt (pe_ix ixH (pv 0) pe_int (fun _ _ => rfl)) pe_int (nomark _))
      (pss_cons (ps_set (i := 2) sc_law_take.nd rfl (.inl rfl) (pe_op op_mod (pe_callTy callInt (by rfl) T.z_int (by decide +kernel) (pa_cons (pe_ix ixH (pv 0) pe_int (fun _ _ => rfl)) pa_nil)) (pv 1)))
      (pss_cons (ps_asg (pe_op op_fdiv (pe_ix ixH (pv 0) pe_int (fun _ _ => rfl)) (pv 1)) (pg_sub (pv 0) pe_int setH))
      (pss_one (ps_ret (pv 2)))))
      pss_nil)
      (pss_cons (ps_set (i := 3) sc_law_take.nd rfl (.inl rfl) pe_int)
      (pss_cons (ps_if (pt_cmpR op_lt (pe_ix ixH (pv 0) pe_int (fun _ _ => rfl)) (pe_callB callLen (by rfl) T.z_len PySem.boot_len (pa_cons (pe_ix ixH (pv 0) pe_int (fun _ _ => rfl)) pa_nil)) (nomark _))
      (pss_one (ps_set (i := 3) sc_law_take.nd rfl (.inl rfl) (pe_ix ixH (pe_ix ixH (pv 0) pe_int (fun _ _ => rfl)) (pe_ix ixH (pv 0) pe_int (fun _ _ => rfl)) (fun _ _ => rfl))))
      pss_nil)
      (pss_cons (ps_asg (pe_op op_add (pe_ix ixH (pv 0) pe_int (fun _ _ => rfl)) pe_int) (pg_sub (pv 0) pe_int setH))
      (pss_cons (ps_if (pt_cmpR op_ge (pv 3) (pe_op powH pe_int pe_int) (nomark _))
      (pss_cons (ps_asg (pe_op op_fdiv (pv 3) pe_int) (pg_sub (pv 0) pe_int setH))
      (pss_one (ps_ret (pe_call G_law_take (hr.mono (by first | decide | exact Nat.le_refl _ | omega)) (by rfl) T.g_law_take T.F_law_take.kp T.b_law_take .nil pass0 (pa_cons (pv 0) (pa_cons (pv 1) pa_nil))))))
      pss_nil)
      (pss_cons (ps_asg (pe_op op_mod (pe_callTy callInt (by rfl) T.z_int (by decide +kernel) (pa_cons (pe_op op_add (pe_op op_add (pe_op op_mul (pe_ix ixH (pv 0) pe_int (fun _ _ => rfl)) pe_int) (pe_op op_mul (pv 3) pe_int)) (pe_op op_mul (pe_ix ixH (pv 0) pe_int (fun _ _ => rfl)) pe_int)) pa_nil)) pe_int) (pg_sub (pv 0) pe_int setH))
      (pss_cons (ps_set (i := 4) sc_law_take.nd rfl (.inl rfl) (pe_op op_mod (pe_callTy callInt (by rfl) T.z_int (by decide +kernel) (pa_cons (pe_op op_add (pe_op op_add (pe_op op_mul (pe_ix ixH (pv 0) pe_int (fun _ _ => rfl)) (pe_ix ixH (pv 0) pe_int (fun _ _ => rfl))) (pe_op op_mul (pe_ix ixH (pv 0) pe_int (fun _ _ => rfl)) pe_int)) pe_int) pa_nil)) pe_int))
      (pss_one (ps_ret (pe_op op_mod (pe_callTy callInt (by rfl) T.z_int (by decide +kernel) (pa_cons (pe_op op_fdiv (pv 4) pe_int) pa_nil)) (pv 1))))))))))), ?_⟩
    simp only [tSeq, tAsg, tRet, tRetN, tDrop, tIfS, tNext, tNever, tOp, tUn, tVar, tC, rI0, rI, rU, tTest, tIf, tB, tAnd, tOr, tNot, tAndV, tOrV, tNotV, gName, gSub, gTupH, gCons, gNil, tYes, tCons, tNil, tLst, tTup, tCB, tCall, tMeth, tMake, tFld, sFld, tFor_c, tLc_c, iRng1, iList, iTup, iStr, iSeqB, iEnumB, tM1, tSl, tPart, tNoPart, rSlS, rIxS, tBM, rAppend, tIf, rEq, rNe, scal, hIx, hIxT, hIxB, hSet, hInt, hIntB, hLen, hLenT, hLenB, L2.start, wipe, List.map_cons, List.map_nil, List.set_cons_zero, List.set_cons_succ, List.set_nil, List.length_cons, List.length_nil, List.length_map, List.cons_append, List.nil_append, List.append_nil, List.replicate, List.getElem?_cons_zero, List.getElem?_cons_succ, Option.some.injEq, V.int.injEq, V.bl.injEq, V.ref.injEq, V.str.injEq, List.cons.injEq, exists_eq_left', exists_eq_left, exists_and_left, and_assoc, upd_same, upd_upd, HO.lst.injEq, HO.tup.injEq, atI_0, atI_1, atI_2, atI_3, set_1, set_2, set_3, CDiv, CPow, CMul, List.length_set, Int.reduceToNat, Int.reduceLE, Int.reduceLT, Int.reducePow, Int.reduceNeg, Nat.reduceAdd, Nat.reduceLT, Nat.reduceLeDiff, Nat.reducePow, Nat.zero_add, or_true, true_or, gt_iff_lt, ge_iff_le, and_true, true_and, decide_eq_true_eq, if_true, Bool.false_eq_true, if_false, *]
    have big : ∀ y : Int, (-18446744073709551616 < y % 2147483647 ∧ y % 2147483647 < 18446744073709551616) := fun y => by omega
    have fin : ∀ y z : Int, 0 ≤ y % 1000000007 / 3 % m ∧ y % 1000000007 / 3 % m < m := fun y z => ⟨Int.emod_nonneg _ (by omega), Int.emod_lt_of_pos _ hm⟩
    have fx : ∀ y : Int, 0 ≤ y % 2147483647 ∧ y % 2147483647 < 2147483647 := fun y => by omega
    refine ite2 (fun c1 => ?_) (fun c1 => ?_)
    · exact q _ _ _ _ (Int.emod_nonneg _ (by omega)) (Int.emod_lt_of_pos _ hm) hi (Int.ediv_nonneg hd (by omega)) hx hx2
    · refine ite2 (fun c2 => ?_) (fun c2 => ?_)
      · have hlt : i.toNat < cells.length := by omega
        have hz : (cells.map V.int)[i.toNat]? = some (.int cells[i.toNat]) := by
          rw [List.getElem?_map, List.getElem?_eq_getElem hlt]
          rfl
        have hnn : 0 ≤ cells[i.toNat] := hcl _ (List.getElem_mem hlt)
        refine ⟨_, by rw [← Int.toNat_of_nonneg hi]; exact atI_nat hz, _, rfl, ?_⟩
        refine ite2 (fun c3 => ?_) (fun c3 => ?_)
        · refine ⟨_, rfl, ?_⟩
          refine ⟨p, m, c, cells, i + 1, cells[i.toNat] / 2, x, rfl, hm, hm2, upd_same, by rw [upd_ne hcp]; exact hc, hcp, hcl, by omega, by omega, hx, hx2, by omega, ?_⟩
          intro r i' d' x' h1 h2 h3 h4 h5 h6
          rw [upd_upd]
          exact q r i' d' x' h1 h2 h3 h4 h5 h6
        · refine ⟨_, rfl, .inl (big _), ?_⟩
          exact q _ _ _ _ (fin _ 0).1 (fin _ 0).2 (by omega) hd (fx _).1 (fx _).2
      · refine ⟨.inl (big _), ?_⟩
        exact q _ _ _ _ (fin _ 0).1 (fin _ 0).2 (by omega) hd (fx _).1 (fx _).2
end
end AK
set_option Elab.async false
set_option linter.all false
set_option maxRecDepth 100000
set_option maxHeartbeats 4000000
namespace AK
open PySem PySem.Spec PyProof.Rows L2
/-- the pool at p, its cells at c -/
structure PoolAt (H : Hp) (p c : Addr) : Prop where
  ne : c ≠ p
  ex : ∃ (cells : List Int) (i d x : Int), H p = some (.lst [.ref c, .int i, .int d, .int x]) ∧ H c = some (.lst (cells.map V.int)) ∧ (∀ z ∈ cells, 0 ≤ z) ∧ 0 ≤ i ∧ 0 ≤ d ∧ 0 ≤ x ∧ x < 2147483647
/-- all but what stands at p is kept -/
def Off1 (p : Addr) (H H' : Hp) : Prop := ∀ b o, b ≠ p → H b = some o → H' b = some o
theorem Off1.refl {p : Addr} {H : Hp} : Off1 p H H := fun _ _ _ e => e
theorem Off1.tr {p : Addr} {H H1 H2 : Hp} (a : Off1 p H H1) (b : Off1 p H1 H2) : Off1 p H H2 := fun x o h e => b x o h (a x o h e)
theorem Off1.of {p : Addr} {H H' : Hp} (s : Same H H') : Off1 p H H' := fun b o _ e => s b o e
theorem PoolAt.has {H : Hp} {p c : Addr} (h : PoolAt H p c) : ∃ o, H p = some o := by
  obtain ⟨_, _, _, _, e, _⟩ := h.ex
  exact ⟨_, e⟩
theorem PoolAt.same {H H' : Hp} {p c : Addr} (h : PoolAt H p c) (s : Same H H') : PoolAt H' p c := by
  obtain ⟨cells, i, d, x, h1, h2, h3⟩ := h.ex
  exact ⟨h.ne, cells, i, d, x, s _ _ h1, s _ _ h2, h3⟩
theorem PoolAt.new {H : Hp} {p c q : Addr} {o : HO} (h : PoolAt H p c) (hq : H q = none) : PoolAt (upd H q o) p c := h.same (same_new hq)
/-- a write at q, which is none of the pool's -/
theorem PoolAt.wr {H : Hp} {p c q : Addr} {o : HO} (h : PoolAt H p c) (h1 : q ≠ p) (h2 : q ≠ c) : PoolAt (upd H q o) p c := by
  obtain ⟨cells, i, d, x, e1, e2, e3⟩ := h.ex
  exact ⟨h.ne, cells, i, d, x, by rw [upd_ne h1.symm]; exact e1, by rw [upd_ne h2.symm]; exact e2, e3⟩
theorem Off1.new {p q : Addr} {H H' : Hp} {o : HO} (h : Off1 p H H') (hq : H' q = none) : Off1 p H (upd H' q o) := h.tr (.of (same_new hq))
/-- a write at an address that H does not hold -/
theorem Off1.wr {p q : Addr} {H H' : Hp} {o : HO} (h : Off1 p H H') (hq : H q = none) : Off1 p H (upd H' q o) := fun b u hb e => by
  rw [upd_ne (ne_of_none e hq)]
  exact h b u hb e
theorem Off1.fresh {p q c : Addr} {H H1 : Hp} (h : Off1 p H H1) (hp : PoolAt H1 p c) (hq : H1 q = none) : H q = none := by
  cases e : H q with
  | none => rfl
  | some o =>
    by_cases z : q = p
    · obtain ⟨o', e'⟩ := hp.has
      rw [z, e'] at hq
      cases hq
    · rw [h q o z e] at hq
      cases hq
theorem PoolAt.ne_p {H : Hp} {p c q : Addr} (h : PoolAt H p c) (hq : H q = none) : q ≠ p := fun z => by
  obtain ⟨o, e⟩ := h.has
  rw [z, e] at hq
  cases hq
theorem PoolAt.ne_c {H : Hp} {p c q : Addr} (h : PoolAt H p c) (hq : H q = none) : q ≠ c := fun z => by
  obtain ⟨_, _, _, _, _, e, _⟩ := h.ex
  rw [z, e] at hq
  cases hq
theorem tab_off {H H' : Hp} {tb p c : Addr} (h : GxR.TabG H tb) (k : PoolAt H p c) (s : Off1 p H H') : GxR.TabG H' tb := by
  obtain ⟨ps, e, t⟩ := h
  refine ⟨ps, s _ _ (fun z => ?_) e, t⟩
  obtain ⟨_, _, _, _, e1, _⟩ := k.ex
  rw [← z, e] at e1
  cases e1
theorem take_pool {H : Hp} {p c : Addr} {m : Int} {Q : VK} {E : XK} (h : PoolAt H p c) (h0 : 0 < m) (h1 : m < 1073741824) (q : ∀ r H', 0 ≤ r → r < m → Off1 p H H' → (∀ b, b ≠ p → H' b = H b) → PoolAt H' p c → Q (.int r) H') :
    spTake (fun _ => True) [.ref p, .int m] H Q E := by
  obtain ⟨cells, i, d, x, e1, e2, e3, e4, e5, e6, e7⟩ := h.ex
  refine ⟨p, m, c, cells, i, d, x, rfl, h0, h1, e1, e2, h.ne, e3, e4, e5, e6, e7, trivial, fun r i' d' x' r0 r1 i0 d0 x0 x1 => q r _ r0 r1 (fun b o hb e => ?_) (fun b hb => upd_ne hb) ⟨h.ne, cells, i', d', x', upd_same, ?_, e3, i0, d0, x0, x1⟩⟩
  · rw [upd_ne hb]
    exact e
  · rw [upd_ne h.ne]
    exact e2
/-! ### texts that are drawn -/
theorem la (y z : Str) : (y ++ z).length = y.length + z.length := by
  show (y.cps ++ z.cps).size = _
  rw [Array.size_append]
  rfl
theorem tx_app (l m : List Nat) : tx l ++ tx m = tx (l ++ m) := by
  show (⟨l.toArray ++ m.toArray⟩ : Str) = _
  unfold tx
  simp
theorem join_tx : ∀ l : List Nat, Str.join Str.empty (l.map fun c => tx [c]) = tx l
  | [] => rfl
  | [c] => rfl
  | c :: d :: l => by
    have ih := join_tx (d :: l)
    show tx [c] ++ Str.empty ++ Str.join Str.empty ((d :: l).map fun c => tx [c]) = _
    rw [ih, show Str.empty = tx [] from rfl, tx_app, tx_app]
    rfl
theorem sum_one : ∀ l : List Nat, ((l.map fun c => tx [c]).map (·.length)).sum = l.length
  | [] => rfl
  | c :: l => by
    rw [List.map_cons, List.map_cons, List.sum_cons, sum_one l, List.length_cons, len_tx]
    simp [Nat.add_comm]
theorem asc_sub : ∀ (l b : List Nat), b.Nodup → l.Sublist b → asc b l = true
  | [], b, _, _ => asc_nil b
  | c :: l, b, hn, hs => by
    have hm : c ∈ b := hs.subset (List.mem_cons_self ..)
    obtain ⟨p, q, e1, e2, e3⟩ := split_at hm
    have key : ∀ p : List Nat, c ∉ p → (c :: l).Sublist (p ++ c :: q) → l.Sublist q := by
      intro p
      induction p with
      | nil =>
        intro _ h
        exact List.cons_sublist_cons.mp h
      | cons y p ih =>
        intro hp h
        cases h with
        | cons _ h' => exact ih (fun z => hp (List.mem_cons_of_mem _ z)) h'
        | cons_cons _ h' => exact absurd (List.mem_cons_self ..) hp
    rw [asc_cons, decide_eq_true hm, Bool.true_and, e3]
    rw [e1] at hs hn
    refine asc_sub l q ?_ (key p e2 hs)
    have := (List.nodup_append.mp hn).2.1
    exact (List.nodup_cons.mp this).2
end AK
set_option Elab.async false
set_option linter.all false
set_option maxRecDepth 100000
set_option maxHeartbeats 4000000
namespace AK
open PySem PySem.Spec PyProof.Rows L2
theorem AV_len : AV.length = 26 := by decide +kernel
theorem AV_nodup : AV.Nodup := by decide +kernel
theorem AN_nodup : AN.Nodup := by decide +kernel
theorem AV_lt : ∀ c ∈ AV, c < 1000 := by decide +kernel
theorem AN_lt : ∀ c ∈ AN, c < 1000 := by decide +kernel
theorem six_at {k : Nat} (h : k < 6) : (lt ("abcdef" : Str))[k]? = AV[k]? := by
  have e : lt ("abcdef" : Str) = AV.take 6 := by decide +kernel
  rw [e, List.getElem?_take, if_pos h]
theorem sixN_at {k : Nat} (h : k < 6) : (lt ("ABCDEF" : Str))[k]? = AN[k]? := by
  have e : lt ("ABCDEF" : Str) = AN.take 6 := by decide +kernel
  rw [e, List.getElem?_take, if_pos h]
theorem msg_sub {n : Int} {l : List Nat} (hl : l ≠ []) (h : l.Sublist (AV.take n.toNat)) : isMsg n (tx l) = true := by
  unfold isMsg
  rw [decide_eq_false (fun z => hl (by
    have := congrArg lt z
    exact this)), lt_tx, asc_sub l _ ((List.take_sublist _ _).nodup AV_nodup) h]
  rfl
section
variable {P : Program} {w : World} {K : PySem.W.Frag} {mg : Str → Option Value} {base : Heap} {a : Ads}
def spMsg : Sp := fun vs H Q _ => ∃ (p c : Addr) (n : Int), vs = [.ref p, .int n] ∧ 1 ≤ n ∧ n ≤ 6 ∧ PoolAt H p c ∧ ∀ (l : List Nat) (H' : Hp), l ≠ [] → l.Sublist (AV.take n.toNat) → Off1 p H H' → PoolAt H' p c → Q (.str (tx l)) H'
theorem ok_law_message (T : Txt K mg a) : FnOk P w K mg base CX0 3 a.a_law_message a.d_law_message ["pool", "variables"] spMsg := by
  have G_law_take := ok_law_take (P := P) (w := w) (base := base) T
  refine T.F_law_message.ok sc_law_message (fun vs H Q E h => ?_) (fun cdv A outer s H vs Q E hr h => ?_)
  · obtain ⟨_, _, _, rfl, _⟩ := h
    rfl
  · obtain ⟨p, c, n, rfl, n1, n6, hp, q⟩ := h
    refine ⟨_, (pss_cons (ps_set (i := 2) sc_law_message.nd rfl (.inr rfl) (pe_op op_add pe_int (pe_call G_law_take (hr.mono (by first | decide | exact Nat.le_refl _ | omega)) (by rfl) T.g_law_take T.F_law_take.kp T.b_law_take .nil pass0 (pa_cons (pv 0) (pa_cons (pe_op powH pe_int pe_int) pa_nil)))))
      (pss_cons (ps_set (i := 3) sc_law_message.nd rfl (.inl rfl) (pe_join pe_str (pe_lc (own := [("k", 4)]) (g := gName 4)  rfl sc_law_message.nd (pi_range1 (by rfl) T.z_range (pa_cons (pv 1) pa_nil)) (blkOk_by (own := [("k", 4)]) (N := sc_law_message_N) (sc := defScope s_law_message) (by decide +kernel)) (fun _ _ _ _ _ => (pg_name (i := 4) sc_law_message.nd rfl (.inl rfl))) (fun _ _ _ _ _ => (pts_one (pt_cmpR op_eq (pe_op op_mod (pe_callTy callInt (by rfl) T.z_int (by decide +kernel) (pa_cons (pe_op op_fdiv (pv 2) (pe_ix ixHT (pe_tup (pa_cons pe_int (pa_cons pe_int (pa_cons pe_int (pa_cons pe_int (pa_cons pe_int (pa_cons pe_int pa_nil))))))) (pv 4) (fun _ _ => rfl))) pa_nil)) pe_int) pe_int (nomark _)))) (fun _ _ _ _ _ => (pe_ix ix_str pe_str (pv 4) (fun _ _ => rfl))))))
      (pss_one (ps_ret (pe_ifExp (pt_cmpR op_ne (pv 3) pe_str (nomark _)) (pv 3) (pe_ix ix_str pe_str (pe_call G_law_take (hr.mono (by first | decide | exact Nat.le_refl _ | omega)) (by rfl) T.g_law_take T.F_law_take.kp T.b_law_take .nil pass0 (pa_cons (pv 0) (pa_cons (pv 1) pa_nil))) (fun _ _ => rfl))))))), ?_⟩
    simp only [tSeq, tAsg, tRet, tRetN, tDrop, tIfS, tNext, tNever, tOp, tUn, tVar, tC, rI0, rI, rU, tTest, tIf, tB, tAnd, tOr, tNot, tAndV, tOrV, tNotV, gName, gSub, gTupH, gCons, gNil, tYes, tCons, tNil, tLst, tTup, tCB, tCall, tMeth, tMake, tFld, sFld, tFor_c, tLc_c, iRng1, iList, iTup, iStr, iSeqB, iEnumB, tM1, tSl, tPart, tNoPart, rSlS, rIxS, tBM, rAppend, tIf, rEq, rNe, scal, hIx, hIxT, hIxB, hSet, hInt, hIntB, hLen, hLenT, hLenB, L2.start, wipe, List.map_cons, List.map_nil, List.set_cons_zero, List.set_cons_succ, List.set_nil, List.length_cons, List.length_nil, List.length_map, List.cons_append, List.nil_append, List.append_nil, List.replicate, List.getElem?_cons_zero, List.getElem?_cons_succ, Option.some.injEq, V.int.injEq, V.bl.injEq, V.ref.injEq, V.str.injEq, List.cons.injEq, exists_eq_left', exists_eq_left, exists_and_left, and_assoc, upd_same, upd_upd, HO.lst.injEq, HO.tup.injEq, atI_0, atI_1, atI_2, atI_3, set_1, set_2, set_3, CDiv, CPow, CMul, List.length_set, Int.reduceToNat, Int.reduceLE, Int.reduceLT, Int.reducePow, Int.reduceNeg, Nat.reduceAdd, Nat.reduceLT, Nat.reduceLeDiff, Nat.reducePow, Nat.zero_add, or_true, true_or, gt_iff_lt, ge_iff_le, and_true, true_and, decide_eq_true_eq, if_true, Bool.false_eq_true, if_false]
    refine take_pool hp (by decide) (by decide) fun r H1 r0 r1 k1 k1' p1 => ?_
    have ej : Txt.join ("" : Str) = fun ys => Str.join Str.empty ys := funext fun ys => TL.join_eq _ ys
    refine ⟨_, rfl, ⟨_, rfl⟩, by omega, by omega, lcRng (fun i D H' => ∃ l : List Nat, H' D = some (.lst ((l.map fun c => tx [c]).map V.str)) ∧ l.Sublist (AV.take i) ∧ Off1 p H H' ∧ PoolAt H' p c) ?_ ?_ ?_⟩
    · intro D hD
      exact ⟨[], upd_same, List.nil_sublist _, k1.new hD, p1.new hD⟩
    · rintro i D H' hD hi ⟨l, eD, sub, k2, p2⟩
      have hi6 : i < 6 := by omega
      have hD0 : H D = none := k1.fresh p1 hD
      refine ⟨rfl, ?_⟩
      simp only [tSeq, tAsg, tRet, tRetN, tDrop, tIfS, tNext, tNever, tOp, tUn, tVar, tC, rI0, rI, rU, tTest, tIf, tB, tAnd, tOr, tNot, tAndV, tOrV, tNotV, gName, gSub, gTupH, gCons, gNil, tYes, tCons, tNil, tLst, tTup, tCB, tCall, tMeth, tMake, tFld, sFld, tFor_c, tLc_c, iRng1, iList, iTup, iStr, iSeqB, iEnumB, tM1, tSl, tPart, tNoPart, rSlS, rIxS, tBM, rAppend, tIf, rEq, rNe, scal, hIx, hIxT, hIxB, hSet, hInt, hIntB, hLen, hLenT, hLenB, L2.start, wipe, List.map_cons, List.map_nil, List.set_cons_zero, List.set_cons_succ, List.set_nil, List.length_cons, List.length_nil, List.length_map, List.cons_append, List.nil_append, List.append_nil, List.replicate, List.getElem?_cons_zero, List.getElem?_cons_succ, Option.some.injEq, V.int.injEq, V.bl.injEq, V.ref.injEq, V.str.injEq, List.cons.injEq, exists_eq_left', exists_eq_left, exists_and_left, and_assoc, upd_same, upd_upd, HO.lst.injEq, HO.tup.injEq, atI_0, atI_1, atI_2, atI_3, set_1, set_2, set_3, CDiv, CPow, CMul, List.length_set, Int.reduceToNat, Int.reduceLE, Int.reduceLT, Int.reducePow, Int.reduceNeg, Nat.reduceAdd, Nat.reduceLT, Nat.reduceLeDiff, Nat.reducePow, Nat.zero_add, or_true, true_or, gt_iff_lt, ge_iff_le, and_true, true_and, decide_eq_true_eq, if_true, Bool.false_eq_true, if_false]
      refine ⟨Nat.le_of_ble_eq_true rfl, fun t ht => ?_⟩
      have tD : t ≠ D := fun z => by
        rw [z, eD] at ht
        cases ht
      obtain ⟨d, ed, d0, d1⟩ : ∃ d : Int, ([V.int 1, V.int 2, V.int 4, V.int 8, V.int 16, V.int 32] : List V)[i]? = some (V.int d) ∧ 0 < d ∧ d < 100 := by
        match i, hi6 with
        | 0, _ => exact ⟨1, rfl, by decide, by decide⟩
        | 1, _ => exact ⟨2, rfl, by decide, by decide⟩
        | 2, _ => exact ⟨4, rfl, by decide, by decide⟩
        | 3, _ => exact ⟨8, rfl, by decide, by decide⟩
        | 4, _ => exact ⟨16, rfl, by decide, by decide⟩
        | 5, _ => exact ⟨32, rfl, by decide, by decide⟩
      have ea : AV[i]? = some (AV[i]'(by rw [AV_len]; omega)) := List.getElem?_eq_getElem _
      have ei : (0 : Int) + (i : Nat) = (i : Nat) := Int.zero_add _
      have ll : l.length ≤ 26 := by
        have := sub.length_le
        rw [List.length_take, AV_len] at this
        omega
      have eD2 : ∀ o, upd H' t o D = some (.lst ((l.map fun c => tx [c]).map V.str)) := fun o => by
        rw [upd_ne tD.symm]
        exact eD
      have et : AV.take (i + 1) = AV.take i ++ [AV[i]'(by rw [AV_len]; omega)] := take_s ea
      rw [ei]
      refine ⟨_, atI_nat ed, d, rfl, d0, by omega, ite2 (fun c1 => ?_) (fun c1 => ?_)⟩
      · refine ⟨by decide +kernel, _, atI_nat ((six_at hi6).trans ea), _, eD2 _, ?_, l ++ [AV[i]'(by rw [AV_len]; omega)], ?_, ?_, (k2.new ht).wr hD0, (p2.new ht).wr (p1.ne_p hD) (p1.ne_c hD)⟩
        · rw [List.length_map, List.length_map]
          exact small1000 (by omega)
        · rw [List.map_append, List.map_append]
          rfl
        · rw [et]
          exact sub.append (List.Sublist.refl _)
      · refine ⟨l, eD2 _, ?_, k2.new ht, p2.new ht⟩
        rw [et]
        exact sub.trans (List.sublist_append_left _ _)
    · rintro D H' hD ⟨l, eD, sub, k2, p2⟩
      refine ⟨D, rfl, l.map (fun c => tx [c]), .inl (SqL.of eD), ?_, ?_⟩
      · rw [sum_one, show ("" : Str).length = 0 from by decide +kernel, Nat.mul_zero]
        have := sub.length_le
        rw [List.length_take, AV_len] at this
        omega
      · simp only [ej, join_tx]
        by_cases e : l = []
        · rw [decide_eq_true (by rw [e]; decide +kernel)]
          refine iteF (take_pool p2 (by omega) (by omega) fun r2 H2 r20 r21 k3 _ p3 => ?_)
          have hr6 : r2.toNat < 6 := by omega
          have ea : AV[r2.toNat]? = some (AV[r2.toNat]'(by rw [AV_len]; omega)) := List.getElem?_eq_getElem _
          refine ⟨_, rfl, by decide +kernel, _, by rw [← Int.toNat_of_nonneg r20]; exact atI_nat ((six_at hr6).trans ea), ?_⟩
          refine q [AV[r2.toNat]'(by rw [AV_len]; omega)] H2 (by simp) ?_ (k2.tr k3) p3
          rw [List.singleton_sublist]
          refine List.mem_iff_getElem?.mpr ⟨r2.toNat, ?_⟩
          rw [List.getElem?_take, if_pos (by omega)]
          exact ea
        · rw [decide_eq_false (fun z => e (by
            have := congrArg lt z
            exact this))]
          exact iteT (q l H' e sub k2 p2)
end
end AK
set_option Elab.async false
set_option linter.all false
set_option maxRecDepth 100000
set_option maxHeartbeats 4000000
namespace AK
open PySem PySem.Spec PyProof.Rows L2
section
variable {P : Program} {w : World} {K : PySem.W.Frag} {mg : Str → Option Value} {base : Heap} {a : Ads}
def spTxt : Sp := fun vs H Q _ => ∃ (p c : Addr) (L : List Nat), vs = [.ref p, .str (tx L)] ∧ 1 ≤ L.length ∧ L.length ≤ 1000 ∧ PoolAt H p c ∧ ∀ (l : List Nat) (H' : Hp), l.length ≤ 3 → (∀ c ∈ l, c ∈ L) → Off1 p H H' → PoolAt H' p c → Q (.str (tx l)) H'
theorem ok_law_text (T : Txt K mg a) : FnOk P w K mg base CX0 3 a.a_law_text a.d_law_text ["pool", "letters"] spTxt := by
  have G_law_take := ok_law_take (P := P) (w := w) (base := base) T
  refine T.F_law_text.ok sc_law_text (fun vs H Q E h => ?_) (fun cdv A outer s H vs Q E hr h => ?_)
  · obtain ⟨_, _, _, rfl, _⟩ := h
    rfl
  · obtain ⟨p, c, L, rfl, l1, l2, hp, q⟩ := h
    refine ⟨_, (pss_one (ps_ret (pe_join pe_str (pe_lc (own := [("k", 2)]) (g := gName 2) (tt := tYes) rfl sc_law_text.nd (pi_range1 (by rfl) T.z_range (pa_cons (pe_call G_law_take (hr.mono (by first | decide | exact Nat.le_refl _ | omega)) (by rfl) T.g_law_take T.F_law_take.kp T.b_law_take .nil pass0 (pa_cons (pv 0) (pa_cons pe_int pa_nil))) pa_nil)) (blkOk_by (own := [("k", 2)]) (N := sc_law_text_N) (sc := defScope s_law_text) (by decide +kernel)) (fun _ _ _ _ _ => (pg_name (i := 2) sc_law_text.nd rfl (.inl rfl))) (fun _ _ _ _ _ => pts_nil) (fun _ _ _ _ _ => (pe_ix ix_str (pv 1) (pe_call G_law_take (hr.mono (by first | decide | exact Nat.le_refl _ | omega)) (by rfl) T.g_law_take T.F_law_take.kp T.b_law_take .nil pass0 (pa_cons (pv 0) (pa_cons (pe_callB call_len_str (by rfl) T.z_len PySem.boot_len (pa_cons (pv 1) pa_nil)) pa_nil))) (fun _ _ => rfl))))))), ?_⟩
    simp only [tSeq, tAsg, tRet, tRetN, tDrop, tIfS, tNext, tNever, tOp, tUn, tVar, tC, rI0, rI, rU, tTest, tIf, tB, tAnd, tOr, tNot, tAndV, tOrV, tNotV, gName, gSub, gTupH, gCons, gNil, tYes, tCons, tNil, tLst, tTup, tCB, tCall, tMeth, tMake, tFld, sFld, tFor_c, tLc_c, iRng1, iList, iTup, iStr, iSeqB, iEnumB, tM1, tSl, tPart, tNoPart, rSlS, rIxS, tBM, rAppend, tIf, rEq, rNe, scal, hIx, hIxT, hIxB, hSet, hInt, hIntB, hLen, hLenT, hLenB, L2.start, wipe, List.map_cons, List.map_nil, List.set_cons_zero, List.set_cons_succ, List.set_nil, List.length_cons, List.length_nil, List.length_map, List.cons_append, List.nil_append, List.append_nil, List.replicate, List.getElem?_cons_zero, List.getElem?_cons_succ, Option.some.injEq, V.int.injEq, V.bl.injEq, V.ref.injEq, V.str.injEq, List.cons.injEq, exists_eq_left', exists_eq_left, exists_and_left, and_assoc, upd_same, upd_upd, HO.lst.injEq, HO.tup.injEq, atI_0, atI_1, atI_2, atI_3, set_1, set_2, set_3, CDiv, CPow, CMul, List.length_set, Int.reduceToNat, Int.reduceLE, Int.reduceLT, Int.reducePow, Int.reduceNeg, Nat.reduceAdd, Nat.reduceLT, Nat.reduceLeDiff, Nat.reducePow, Nat.zero_add, or_true, true_or, gt_iff_lt, ge_iff_le, and_true, true_and, decide_eq_true_eq, if_true, Bool.false_eq_true, if_false]
    have ej : Txt.join ("" : Str) = fun ys => Str.join Str.empty ys := funext fun ys => TL.join_eq _ ys
    refine ⟨⟨_, rfl⟩, take_pool hp (by decide) (by decide) fun r H1 r0 r1 k1 k1' p1 => ?_⟩
    refine ⟨_, rfl, by omega, by omega, lcRng (fun i D H' => ∃ l : List Nat, H' D = some (.lst ((l.map fun c => tx [c]).map V.str)) ∧ l.length ≤ i ∧ (∀ y ∈ l, y ∈ L) ∧ Off1 p H H' ∧ PoolAt H' p c) ?_ ?_ ?_⟩
    · intro D hD
      exact ⟨[], upd_same, Nat.le_refl _, (fun y hy => absurd hy List.not_mem_nil), k1.new hD, p1.new hD⟩
    · rintro i D H' hD hi ⟨l, eD, len, sub, k2, p2⟩
      have hD0 : H D = none := k1.fresh p1 hD
      have hDp := p1.ne_p hD
      refine ⟨rfl, ?_⟩
      simp only [tSeq, tAsg, tRet, tRetN, tDrop, tIfS, tNext, tNever, tOp, tUn, tVar, tC, rI0, rI, rU, tTest, tIf, tB, tAnd, tOr, tNot, tAndV, tOrV, tNotV, gName, gSub, gTupH, gCons, gNil, tYes, tCons, tNil, tLst, tTup, tCB, tCall, tMeth, tMake, tFld, sFld, tFor_c, tLc_c, iRng1, iList, iTup, iStr, iSeqB, iEnumB, tM1, tSl, tPart, tNoPart, rSlS, rIxS, tBM, rAppend, tIf, rEq, rNe, scal, hIx, hIxT, hIxB, hSet, hInt, hIntB, hLen, hLenT, hLenB, L2.start, wipe, List.map_cons, List.map_nil, List.set_cons_zero, List.set_cons_succ, List.set_nil, List.length_cons, List.length_nil, List.length_map, List.cons_append, List.nil_append, List.append_nil, List.replicate, List.getElem?_cons_zero, List.getElem?_cons_succ, Option.some.injEq, V.int.injEq, V.bl.injEq, V.ref.injEq, V.str.injEq, List.cons.injEq, exists_eq_left', exists_eq_left, exists_and_left, and_assoc, upd_same, upd_upd, HO.lst.injEq, HO.tup.injEq, atI_0, atI_1, atI_2, atI_3, set_1, set_2, set_3, CDiv, CPow, CMul, List.length_set, Int.reduceToNat, Int.reduceLE, Int.reduceLT, Int.reducePow, Int.reduceNeg, Nat.reduceAdd, Nat.reduceLT, Nat.reduceLeDiff, Nat.reducePow, Nat.zero_add, or_true, true_or, gt_iff_lt, ge_iff_le, and_true, true_and, decide_eq_true_eq, if_true, Bool.false_eq_true, if_false]
      refine ⟨sizeLe l2, ?_⟩
      try rw [len_tx]
      refine take_pool p2 (by omega) (by omega) fun r2 H2 r20 r21 k3 k3' p3 => ?_
      have hlt : r2.toNat < L.length := by omega
      have ea : L[r2.toNat]? = some L[r2.toNat] := List.getElem?_eq_getElem hlt
      refine ⟨_, rfl, sizeLe l2, _, by rw [← Int.toNat_of_nonneg r20]; exact atI_nat ea, _, k3 D _ hDp eD, ?_, l ++ [L[r2.toNat]], ?_, ?_, ?_, (k2.tr k3).wr hD0, p3.wr hDp (p1.ne_c hD)⟩
      · rw [List.length_map, List.length_map]
        exact small1000 (by omega)
      · rw [List.map_append, List.map_append]
        rfl
      · rw [List.length_append]
        simp only [List.length_cons, List.length_nil]
        omega
      · intro y hy
        rcases List.mem_append.mp hy with z | z
        · exact sub y z
        · rw [List.mem_singleton.mp z]
          exact List.getElem_mem hlt
    · rintro D H' hD ⟨l, eD, len, sub, k2, p2⟩
      refine ⟨D, rfl, l.map (fun c => tx [c]), .inl (SqL.of eD), ?_, ?_⟩
      · rw [sum_one, show ("" : Str).length = 0 from by decide +kernel, Nat.mul_zero]
        omega
      · simp only [ej, join_tx]
        exact q l H' (by omega) sub k2 p2
end
end AK
set_option Elab.async false
set_option linter.all false
set_option maxRecDepth 100000
set_option maxHeartbeats 4000000
namespace AK
open PySem PySem.Spec PyProof.Rows L2
/-- a list of lists of texts, at q -/
structure LstAt (H : Hp) (q : Addr) (rows : List (List Str)) : Prop where
  ex : ∃ as : List Addr, H q = some (.lst (as.map V.ref)) ∧ as.length = rows.length ∧ (∀ t ∈ as, t ≠ q) ∧ ∀ (i : Nat) (r : List Str) (t : Addr), rows[i]? = some r → as[i]? = some t → H t = some (.lst (r.map V.str))
theorem PoolAt.ne_str {H : Hp} {p c t : Addr} {r : List Str} (h : PoolAt H p c) (e : H t = some (.lst (r.map V.str))) : t ≠ p := fun z => by
  obtain ⟨_, _, _, _, e1, _⟩ := h.ex
  rw [z, e1] at e
  have e2 := HO.lst.inj (Option.some.inj e)
  cases r with
  | nil => cases e2
  | cons x r => cases e2
theorem PoolAt.ne_ref {H : Hp} {p c t : Addr} {as : List Addr} (h : PoolAt H p c) (e : H t = some (.lst (as.map V.ref))) : t ≠ p := fun z => by
  obtain ⟨_, _, _, _, e1, _⟩ := h.ex
  rw [z, e1] at e
  have e2 := HO.lst.inj (Option.some.inj e)
  match as, e2 with
  | [], e2 => cases e2
  | [_], e2 => cases e2
  | _ :: _ :: _, e2 => cases e2
theorem LstAt.off {H H' : Hp} {p c q : Addr} {rows : List (List Str)} (h : LstAt H q rows) (k : PoolAt H p c) (s : Off1 p H H') : LstAt H' q rows := by
  obtain ⟨as, h1, h2, h3, h4⟩ := h.ex
  exact ⟨as, s _ _ (k.ne_ref h1) h1, h2, h3, fun i r t e1 e2 => s _ _ (k.ne_str (h4 i r t e1 e2)) (h4 i r t e1 e2)⟩
/-- one row more -/
theorem LstAt.add {H : Hp} {q t : Addr} {rows : List (List Str)} {as : List Addr} {r : List Str} (h : H q = some (.lst (as.map V.ref))) (h2 : as.length = rows.length) (h3 : ∀ t ∈ as, t ≠ q) (h4 : ∀ (i : Nat) (r : List Str) (t : Addr), rows[i]? = some r → as[i]? = some t → H t = some (.lst (r.map V.str)))
    (hn : t ≠ q) (ht : H t = some (.lst (r.map V.str))) : LstAt (upd H q (.lst (as.map V.ref ++ [.ref t]))) q (rows ++ [r]) := by
  refine ⟨as ++ [t], ?_, ?_, ?_, ?_⟩
  · rw [upd_same, List.map_append]
    rfl
  · rw [List.length_append, List.length_append, h2]
    rfl
  · intro x hx
    rcases List.mem_append.mp hx with z | z
    · exact h3 x z
    · rw [List.mem_singleton.mp z]
      exact hn
  · intro i x y hx hy
    by_cases hi : i < rows.length
    · rw [List.getElem?_append_left hi] at hx
      rw [List.getElem?_append_left (by omega)] at hy
      rw [upd_ne (h3 y (List.mem_of_getElem? hy))]
      exact h4 i x y hx hy
    · rw [List.getElem?_append_right (by omega)] at hx hy
      have hz : i - rows.length = 0 := by
        have := (List.getElem?_eq_some_iff.mp hx).1
        simp only [List.length_cons, List.length_nil] at this
        omega
      rw [h2, hz] at hy
      rw [hz] at hx
      cases hx
      cases hy
      rw [upd_ne hn]
      exact ht
theorem List.Nodup.getElem_inj_iff_ {l : List Nat} (hn : l.Nodup) {i j : Nat} (hi : i < l.length) (hj : j < l.length) : l[i] = l[j] ↔ i = j := by
  refine ⟨fun e => ?_, fun e => by subst e; rfl⟩
  have h := List.pairwise_iff_getElem.mp hn
  rcases Nat.lt_trichotomy i j with z | z | z
  · exact absurd e (h i j hi hj z)
  · exact z
  · exact absurd e.symm (h j i hj hi z)
theorem wrap {m s t : Int} (hm : 2 ≤ m) (s0 : 0 ≤ s) (s1 : s < m) (t0 : 0 ≤ t) (t1 : t < m - 1) : 0 ≤ (s + 1 + t) % m ∧ (s + 1 + t) % m < m ∧ (s + 1 + t) % m ≠ s := by
  refine ⟨Int.emod_nonneg _ (by omega), Int.emod_lt_of_pos _ (by omega), ?_⟩
  by_cases h : s + 1 + t < m
  · rw [Int.emod_eq_of_lt (by omega) h]
    omega
  · have e : s + 1 + t = (s + 1 + t - m) + m * 1 := by omega
    rw [e, Int.add_mul_emod_self_left, Int.emod_eq_of_lt (by omega) (by omega)]
    omega
theorem isLnk_ok {m : Nat} {c d i j : Nat} (hi : (AN.take m)[i]? = some c) (hj : (AN.take m)[j]? = some d) (h : i ≠ j) : isLnk (m : Int) [c, d] = true := by
  have hc : c ∈ AN.take m := List.mem_of_getElem? hi
  have hd : d ∈ AN.take m := List.mem_of_getElem? hj
  have hn : c ≠ d := fun z => by
    subst z
    obtain ⟨hi', ei⟩ := List.getElem?_eq_some_iff.mp hi
    obtain ⟨hj', ej⟩ := List.getElem?_eq_some_iff.mp hj
    exact h ((List.Nodup.getElem_inj_iff_ ((List.take_sublist _ _).nodup AN_nodup) hi' hj').mp (ei.trans ej.symm))
  show (!decide (c = d) && (decide (c ∈ AN.take (m : Int).toNat) && decide (d ∈ AN.take (m : Int).toNat))) = true
  rw [decide_eq_false hn, decide_eq_true (by rw [Int.toNat_natCast]; exact hc), decide_eq_true (by rw [Int.toNat_natCast]; exact hd)]
  rfl
section
variable {P : Program} {w : World} {K : PySem.W.Frag} {mg : Str → Option Value} {base : Heap} {a : Ads}
def spRows : Sp := fun vs H Q _ => ∃ (p c : Addr) (hi mo : Int), vs = [.ref p, .int hi, .int mo] ∧ (1 ≤ hi ∧ hi ≤ 6) ∧ (0 ≤ mo ∧ mo ≤ 16) ∧ PoolAt H p c ∧ ∀ (n : Int) (t an al : Addr) (rows : List (List Str)) (links : List Str) (H' : Hp), Off1 p H H' → PoolAt H' p c → Right n rows links →
  H' t = some (.tup [.int n, .ref an, .ref al]) → LstAt H' an rows → H' al = some (.lst (links.map V.str)) → (∀ x ∈ links, x.length = 2) → Q (.ref t) H'
theorem ok_law_rows (T : Txt K mg a) : FnOk P w K mg base CX0 4 a.a_law_rows a.d_law_rows ["pool", "high", "most"] spRows := by
  have G_law_take := ok_law_take (P := P) (w := w) (base := base) T
  have G_law_message := ok_law_message (P := P) (w := w) (base := base) T
  refine T.F_law_rows.ok sc_law_rows (fun vs H Q E h => ?_) (fun cdv A outer s H vs Q E hr h => ?_)
  · obtain ⟨_, _, _, _, rfl, _⟩ := h
    rfl
  · obtain ⟨p, c, hi, mo, rfl, hh, hm, hp, q⟩ := h
    refine ⟨_, (pss_cons (ps_set (i := 3) sc_law_rows.nd rfl (.inr rfl) (pe_call G_law_take (hr.mono (by first | decide | exact Nat.le_refl _ | omega)) (by rfl) T.g_law_take T.F_law_take.kp T.b_law_take .nil pass0 (pa_cons (pv 0) (pa_cons pe_int pa_nil))))
      (pss_cons (ps_set (i := 4) sc_law_rows.nd rfl (.inl rfl) (pe_lst pa_nil))
      (pss_cons (ps_for PassesOwn.never rfl (pi_range1 (by rfl) T.z_range (pa_cons (pe_op op_add pe_int (pe_call G_law_take (hr.mono (by first | decide | exact Nat.le_refl _ | omega)) (by rfl) T.g_law_take T.F_law_take.kp T.b_law_take .nil pass0 (pa_cons (pv 0) (pa_cons (pv 1) pa_nil)))) pa_nil)) (pg_name (i := 5) sc_law_rows.nd rfl (.inl rfl))
      (pss_one (ps_expr (pe_bm PySem.F.plainAttrs_list PySem.F.slot_list_append PySem.F.type_list_append mt_append (pv 4) (pa_cons (pe_lc (own := [("j", 9)]) (g := gName 9) (tt := tYes) rfl sc_law_rows.nd (pi_range1 (by rfl) T.z_range (pa_cons (pe_op op_mul (pe_call G_law_take (hr.mono (by first | decide | exact Nat.le_refl _ | omega)) (by rfl) T.g_law_take T.F_law_take.kp T.b_law_take .nil pass0 (pa_cons (pv 0) (pa_cons pe_int pa_nil))) (pe_callTy callIntB (by rfl) T.z_int (by decide +kernel) (pa_cons (pe_cmpR op_gt (pv 3) pe_int (nomark _)) pa_nil))) pa_nil)) (blkOk_by (own := [("j", 9)]) (N := sc_law_rows_N) (sc := defScope s_law_rows) (by decide +kernel)) (fun _ _ _ _ _ => (pg_name (i := 9) sc_law_rows.nd rfl (.inl rfl))) (fun _ _ _ _ _ => pts_nil) (fun _ _ _ _ _ => (pe_call G_law_message (hr.mono (by first | decide | exact Nat.le_refl _ | omega)) (by rfl) T.g_law_message T.F_law_message.kp T.b_law_message .nil pass0 (pa_cons (pv 0) (pa_cons (pv 3) pa_nil))))) pa_nil)))))
      (pss_cons (ps_set (i := 6) sc_law_rows.nd rfl (.inl rfl) (pe_lst pa_nil))
      (pss_cons (ps_for PassesOwn.never rfl (pi_range1 (by rfl) T.z_range (pa_cons (pe_op op_mul (pe_call G_law_take (hr.mono (by first | decide | exact Nat.le_refl _ | omega)) (by rfl) T.g_law_take T.F_law_take.kp T.b_law_take .nil pass0 (pa_cons (pv 0) (pa_cons (pe_op op_add (pv 2) pe_int) pa_nil))) (pe_callTy callIntB (by rfl) T.z_int (by decide +kernel) (pa_cons (pe_cmpR op_gt (pe_callB callLen (by rfl) T.z_len PySem.boot_len (pa_cons (pv 4) pa_nil)) pe_int (nomark _)) pa_nil))) pa_nil)) (pg_name (i := 5) sc_law_rows.nd rfl (.inl rfl))
      (pss_cons (ps_set (i := 7) sc_law_rows.nd rfl (.inl rfl) (pe_call G_law_take (hr.mono (by first | decide | exact Nat.le_refl _ | omega)) (by rfl) T.g_law_take T.F_law_take.kp T.b_law_take .nil pass0 (pa_cons (pv 0) (pa_cons (pe_callB callLen (by rfl) T.z_len PySem.boot_len (pa_cons (pv 4) pa_nil)) pa_nil))))
      (pss_cons (ps_set (i := 8) sc_law_rows.nd rfl (.inl rfl) (pe_op op_mod (pe_callTy callInt (by rfl) T.z_int (by decide +kernel) (pa_cons (pe_op op_add (pe_op op_add (pv 7) pe_int) (pe_call G_law_take (hr.mono (by first | decide | exact Nat.le_refl _ | omega)) (by rfl) T.g_law_take T.F_law_take.kp T.b_law_take .nil pass0 (pa_cons (pv 0) (pa_cons (pe_op op_sub (pe_callB callLen (by rfl) T.z_len PySem.boot_len (pa_cons (pv 4) pa_nil)) pe_int) pa_nil)))) pa_nil)) (pe_callB callLen (by rfl) T.z_len PySem.boot_len (pa_cons (pv 4) pa_nil))))
      (pss_one (ps_expr (pe_bm PySem.F.plainAttrs_list PySem.F.slot_list_append PySem.F.type_list_append mt_append (pv 6) (pa_cons (pe_op op_add_str (pe_ix ix_str pe_str (pv 7) (fun _ _ => rfl)) (pe_ix ix_str pe_str (pv 8) (fun _ _ => rfl))) pa_nil)))))))
      (pss_one (ps_ret (pe_tup (pa_cons (pv 3) (pa_cons (pv 4) (pa_cons (pv 6) pa_nil))))))))))), ?_⟩
    simp only [tSeq, tAsg, tRet, tRetN, tDrop, tIfS, tNext, tNever, tOp, tUn, tVar, tC, rI0, rI, rU, tTest, tIf, tB, tAnd, tOr, tNot, tAndV, tOrV, tNotV, gName, gSub, gTupH, gCons, gNil, tYes, tCons, tNil, tLst, tTup, tCB, tCall, tMeth, tMake, tFld, sFld, tFor_c, tLc_c, iRng1, iList, iTup, iStr, iSeqB, iEnumB, tM1, tSl, tPart, tNoPart, rSlS, rIxS, tBM, rAppend, tIf, rEq, rNe, scal, hIx, hIxT, hIxB, hSet, hInt, hIntB, hLen, hLenT, hLenB, L2.start, wipe, List.map_cons, List.map_nil, List.set_cons_zero, List.set_cons_succ, List.set_nil, List.length_cons, List.length_nil, List.length_map, List.cons_append, List.nil_append, List.append_nil, List.replicate, List.getElem?_cons_zero, List.getElem?_cons_succ, Option.some.injEq, V.int.injEq, V.bl.injEq, V.ref.injEq, V.str.injEq, List.cons.injEq, exists_eq_left', exists_eq_left, exists_and_left, and_assoc, upd_same, upd_upd, HO.lst.injEq, HO.tup.injEq, atI_0, atI_1, atI_2, atI_3, set_1, set_2, set_3, CDiv, CPow, CMul, List.length_set, Int.reduceToNat, Int.reduceLE, Int.reduceLT, Int.reducePow, Int.reduceNeg, Nat.reduceAdd, Nat.reduceLT, Nat.reduceLeDiff, Nat.reducePow, Nat.zero_add, or_true, true_or, gt_iff_lt, ge_iff_le, and_true, true_and, decide_eq_true_eq, if_true, Bool.false_eq_true, if_false]
    refine take_pool hp (by decide) (by decide) fun n H1 n0 n1 k1 k1' p1 => ?_
    refine ⟨Nat.le_of_ble_eq_true rfl, fun an han => ?_⟩
    refine take_pool (p1.new han) (by omega) (by omega) fun r H2 r0 r1 k2 k2' p2 => ?_
    have anp : an ≠ p := p1.ne_p han
    have han0 : H an = none := k1.fresh p1 han
    refine ⟨_, rfl, by omega, by omega, ?_⟩
    refine forRng (fun i σ H' => (∃ v, σ = [some (.ref p), some (.int hi), some (.int mo), some (.int n), some (.ref an), v, none, none, none, none]) ∧ ∃ rows : List (List Str), LstAt H' an rows ∧ rows.length = i ∧ (∀ x ∈ rows, rowBad n x = none) ∧ Off1 p H H' ∧ PoolAt H' p c) ?_ ?_ ?_
    · exact ⟨⟨_, rfl⟩, [], ⟨[], k2 _ _ anp upd_same, rfl, fun t ht => absurd ht List.not_mem_nil, fun i r t e => by cases e⟩, rfl, fun x hx => absurd hx List.not_mem_nil, (k1.new han).tr k2, p2⟩
    · rintro i σ H3 hi ⟨⟨v, rfl⟩, rows, hl, hlen, hbad, k3, p3⟩
      obtain ⟨as, e1, e2, e3, e4⟩ := hl.ex
      simp only [tSeq, tAsg, tRet, tRetN, tDrop, tIfS, tNext, tNever, tOp, tUn, tVar, tC, rI0, rI, rU, tTest, tIf, tB, tAnd, tOr, tNot, tAndV, tOrV, tNotV, gName, gSub, gTupH, gCons, gNil, tYes, tCons, tNil, tLst, tTup, tCB, tCall, tMeth, tMake, tFld, sFld, tFor_c, tLc_c, iRng1, iList, iTup, iStr, iSeqB, iEnumB, tM1, tSl, tPart, tNoPart, rSlS, rIxS, tBM, rAppend, tIf, rEq, rNe, scal, hIx, hIxT, hIxB, hSet, hInt, hIntB, hLen, hLenT, hLenB, L2.start, wipe, List.map_cons, List.map_nil, List.set_cons_zero, List.set_cons_succ, List.set_nil, List.length_cons, List.length_nil, List.length_map, List.cons_append, List.nil_append, List.append_nil, List.replicate, List.getElem?_cons_zero, List.getElem?_cons_succ, Option.some.injEq, V.int.injEq, V.bl.injEq, V.ref.injEq, V.str.injEq, List.cons.injEq, exists_eq_left', exists_eq_left, exists_and_left, and_assoc, upd_same, upd_upd, HO.lst.injEq, HO.tup.injEq, atI_0, atI_1, atI_2, atI_3, set_1, set_2, set_3, CDiv, CPow, CMul, List.length_set, Int.reduceToNat, Int.reduceLE, Int.reduceLT, Int.reducePow, Int.reduceNeg, Nat.reduceAdd, Nat.reduceLT, Nat.reduceLeDiff, Nat.reducePow, Nat.zero_add, or_true, true_or, gt_iff_lt, ge_iff_le, and_true, true_and, decide_eq_true_eq, if_true, Bool.false_eq_true, if_false]
      have lis : as.length ≤ 6 := by omega
      refine ⟨.inl ⟨rfl, _, SqL.of e1⟩, take_pool p3 (by decide) (by decide) fun m H4 m0 m1 k4 k4' p4 => ⟨m, rfl, .inl ⟨by omega, by omega⟩, ?_⟩⟩
      have cnt : 0 ≤ (m * if 0 < n then 1 else 0) ∧ (m * if 0 < n then 1 else 0) ≤ 4 ∧ ((m * if 0 < n then 1 else 0) = 0 ∨ 1 ≤ n) := by
        by_cases hn : 0 < n
        · rw [if_pos hn]
          omega
        · rw [if_neg hn]
          omega
      generalize (m * if 0 < n then 1 else 0) = cn at cnt ⊢
      obtain ⟨c0, c4, cz⟩ := cnt
      refine ⟨by omega, by omega, lcRng (fun j D H' => ∃ r : List Str, H' D = some (.lst (r.map V.str)) ∧ r.length = j ∧ (∀ x ∈ r, isMsg n x = true) ∧ Off1 p H4 H' ∧ PoolAt H' p c) ?_ ?_ ?_⟩
      · intro D hD
        exact ⟨[], upd_same, rfl, fun x hx => absurd hx List.not_mem_nil, (Off1.refl).new hD, p4.new hD⟩
      · rintro j D H5 hD hj ⟨r, eD, rl, rm, k5, p5⟩
        refine ⟨rfl, ?_⟩
        simp only [tSeq, tAsg, tRet, tRetN, tDrop, tIfS, tNext, tNever, tOp, tUn, tVar, tC, rI0, rI, rU, tTest, tIf, tB, tAnd, tOr, tNot, tAndV, tOrV, tNotV, gName, gSub, gTupH, gCons, gNil, tYes, tCons, tNil, tLst, tTup, tCB, tCall, tMeth, tMake, tFld, sFld, tFor_c, tLc_c, iRng1, iList, iTup, iStr, iSeqB, iEnumB, tM1, tSl, tPart, tNoPart, rSlS, rIxS, tBM, rAppend, tIf, rEq, rNe, scal, hIx, hIxT, hIxB, hSet, hInt, hIntB, hLen, hLenT, hLenB, L2.start, wipe, List.map_cons, List.map_nil, List.set_cons_zero, List.set_cons_succ, List.set_nil, List.length_cons, List.length_nil, List.length_map, List.cons_append, List.nil_append, List.append_nil, List.replicate, List.getElem?_cons_zero, List.getElem?_cons_succ, Option.some.injEq, V.int.injEq, V.bl.injEq, V.ref.injEq, V.str.injEq, List.cons.injEq, exists_eq_left', exists_eq_left, exists_and_left, and_assoc, upd_same, upd_upd, HO.lst.injEq, HO.tup.injEq, atI_0, atI_1, atI_2, atI_3, set_1, set_2, set_3, CDiv, CPow, CMul, List.length_set, Int.reduceToNat, Int.reduceLE, Int.reduceLT, Int.reducePow, Int.reduceNeg, Nat.reduceAdd, Nat.reduceLT, Nat.reduceLeDiff, Nat.reducePow, Nat.zero_add, or_true, true_or, gt_iff_lt, ge_iff_le, and_true, true_and, decide_eq_true_eq, if_true, Bool.false_eq_true, if_false]
        refine ⟨p, c, n, rfl, by omega, by omega, p5, fun l H6 hl hs k6 p6 => ?_⟩
        refine ⟨_, k6 _ _ (p4.ne_p hD) eD, by rw [List.length_map]; exact small1000 (by omega), r ++ [tx l], by rw [List.map_append]; rfl, by rw [List.length_append, rl]; rfl, ?_, (k5.tr k6).wr hD, p6.wr (p4.ne_p hD) (p4.ne_c hD)⟩
        intro x hx
        rcases List.mem_append.mp hx with z | z
        · exact rm x z
        · rw [List.mem_singleton.mp z]
          exact msg_sub hl hs
      · rintro D H5 hD ⟨r, eD, rl, rm, k5, p5⟩
        have k35 := k4.tr k5
        have e1' := k35 _ _ anp e1
        have hDn : D ≠ an := fun z => by
          rw [z, k4 _ _ anp e1] at hD
          cases hD
        refine ⟨_, e1', by rw [List.length_map]; exact small1000 (by omega), ⟨_, rfl⟩, rows ++ [r], LstAt.add e1' e2 e3 (fun i r t x y => k35 _ _ (p3.ne_str (e4 i r t x y)) (e4 i r t x y)) hDn eD, by rw [List.length_append, hlen]; rfl, ?_, (k3.tr k35).wr han0, p5.wr anp ?_⟩
        · intro x hx
          rcases List.mem_append.mp hx with z | z
          · exact hbad x z
          · rw [List.mem_singleton.mp z]
            unfold rowBad
            rw [if_neg (by omega), if_pos (List.all_eq_true.mpr rm)]
        · exact p1.ne_c han
    · rintro σ H3 ⟨⟨v, rfl⟩, rows, hl, hlen, hbad, k3, p3⟩
      simp only [tSeq, tAsg, tRet, tRetN, tDrop, tIfS, tNext, tNever, tOp, tUn, tVar, tC, rI0, rI, rU, tTest, tIf, tB, tAnd, tOr, tNot, tAndV, tOrV, tNotV, gName, gSub, gTupH, gCons, gNil, tYes, tCons, tNil, tLst, tTup, tCB, tCall, tMeth, tMake, tFld, sFld, tFor_c, tLc_c, iRng1, iList, iTup, iStr, iSeqB, iEnumB, tM1, tSl, tPart, tNoPart, rSlS, rIxS, tBM, rAppend, tIf, rEq, rNe, scal, hIx, hIxT, hIxB, hSet, hInt, hIntB, hLen, hLenT, hLenB, L2.start, wipe, List.map_cons, List.map_nil, List.set_cons_zero, List.set_cons_succ, List.set_nil, List.length_cons, List.length_nil, List.length_map, List.cons_append, List.nil_append, List.append_nil, List.replicate, List.getElem?_cons_zero, List.getElem?_cons_succ, Option.some.injEq, V.int.injEq, V.bl.injEq, V.ref.injEq, V.str.injEq, List.cons.injEq, exists_eq_left', exists_eq_left, exists_and_left, and_assoc, upd_same, upd_upd, HO.lst.injEq, HO.tup.injEq, atI_0, atI_1, atI_2, atI_3, set_1, set_2, set_3, CDiv, CPow, CMul, List.length_set, Int.reduceToNat, Int.reduceLE, Int.reduceLT, Int.reducePow, Int.reduceNeg, Nat.reduceAdd, Nat.reduceLT, Nat.reduceLeDiff, Nat.reducePow, Nat.zero_add, or_true, true_or, gt_iff_lt, ge_iff_le, and_true, true_and, decide_eq_true_eq, if_true, Bool.false_eq_true, if_false]
      obtain ⟨as, e1, e2, e3, e4⟩ := hl.ex
      refine ⟨Nat.zero_le _, fun al hal => ?_⟩
      refine take_pool (p3.new hal) (by omega) (by omega) fun m H4 m0 m1 k4 k4' p4 => ?_
      have alp : al ≠ p := p3.ne_p hal
      have aln : al ≠ an := fun z => by
        rw [z, e1] at hal
        cases hal
      have k34 : Off1 p H3 H4 := (Off1.new Off1.refl hal).tr k4
      have el : ((as.map V.ref).length : Int) = (rows.length : Int) := by rw [List.length_map, e2]
      refine ⟨_, k34 _ _ anp e1, m, rfl, .inl ⟨by omega, by omega⟩, ?_⟩
      rw [el]
      have cnt : 0 ≤ (m * if 1 < (rows.length : Int) then 1 else 0) ∧ (m * if 1 < (rows.length : Int) then 1 else 0) ≤ 16 ∧ ((m * if 1 < (rows.length : Int) then 1 else 0) = 0 ∨ 2 ≤ (rows.length : Int)) := by
        by_cases hn : 1 < (rows.length : Int)
        · rw [if_pos hn]
          omega
        · rw [if_neg hn]
          omega
      generalize (m * if 1 < (rows.length : Int) then 1 else 0) = cn at cnt ⊢
      obtain ⟨c0, c16, cz⟩ := cnt
      refine ⟨by omega, by omega, ?_⟩
      refine forRng (fun i σ H' => (∃ v5 v7 v8, σ = [some (.ref p), some (.int hi), some (.int mo), some (.int n), some (.ref an), v5, some (.ref al), v7, v8, none]) ∧ ∃ links : List Str, H' al = some (.lst (links.map V.str)) ∧ links.length = i ∧ (∀ x ∈ links, isLnk rows.length (lt x) = true ∧ x.length = 2) ∧ Off1 p H3 H' ∧ PoolAt H' p c) ?_ ?_ ?_
      · exact ⟨⟨_, _, _, rfl⟩, [], k4 _ _ alp upd_same, rfl, fun x hx => absurd hx List.not_mem_nil, k34, p4⟩
      · rintro i σ H5 hi ⟨⟨v5, v7, v8, rfl⟩, links, el5, len5, ok5, k5, p5⟩
        have hm : 2 ≤ (rows.length : Int) := by omega
        have hm6 : (rows.length : Int) ≤ 6 := by omega
        have eA : ∀ {Hx : Hp}, Off1 p H3 Hx → Hx an = some (.lst (as.map V.ref)) := fun k => k _ _ anp e1
        simp only [tSeq, tAsg, tRet, tRetN, tDrop, tIfS, tNext, tNever, tOp, tUn, tVar, tC, rI0, rI, rU, tTest, tIf, tB, tAnd, tOr, tNot, tAndV, tOrV, tNotV, gName, gSub, gTupH, gCons, gNil, tYes, tCons, tNil, tLst, tTup, tCB, tCall, tMeth, tMake, tFld, sFld, tFor_c, tLc_c, iRng1, iList, iTup, iStr, iSeqB, iEnumB, tM1, tSl, tPart, tNoPart, rSlS, rIxS, tBM, rAppend, tIf, rEq, rNe, scal, hIx, hIxT, hIxB, hSet, hInt, hIntB, hLen, hLenT, hLenB, L2.start, wipe, List.map_cons, List.map_nil, List.set_cons_zero, List.set_cons_succ, List.set_nil, List.length_cons, List.length_nil, List.length_map, List.cons_append, List.nil_append, List.append_nil, List.replicate, List.getElem?_cons_zero, List.getElem?_cons_succ, Option.some.injEq, V.int.injEq, V.bl.injEq, V.ref.injEq, V.str.injEq, List.cons.injEq, exists_eq_left', exists_eq_left, exists_and_left, and_assoc, upd_same, upd_upd, HO.lst.injEq, HO.tup.injEq, atI_0, atI_1, atI_2, atI_3, set_1, set_2, set_3, CDiv, CPow, CMul, List.length_set, Int.reduceToNat, Int.reduceLE, Int.reduceLT, Int.reducePow, Int.reduceNeg, Nat.reduceAdd, Nat.reduceLT, Nat.reduceLeDiff, Nat.reducePow, Nat.zero_add, or_true, true_or, gt_iff_lt, ge_iff_le, and_true, true_and, decide_eq_true_eq, if_true, Bool.false_eq_true, if_false]
        refine ⟨_, eA k5, ?_⟩
        rw [el]
        refine take_pool p5 (by omega) (by omega) fun st H6 s0 s1 k6 _ p6 => ⟨st, rfl, _, eA (k5.tr k6), ?_⟩
        rw [el]
        refine take_pool p6 (by omega) (by omega) fun tt H7 t0 t1 k7 _ p7 => ⟨tt, rfl, _, eA ((k5.tr k6).tr k7), ?_⟩
        rw [el]
        obtain ⟨w0, w1, w2⟩ := wrap hm s0 s1 t0 t1
        generalize (st + 1 + tt) % (rows.length : Int) = sp at w0 w1 w2 ⊢
        have el7 : H7 al = some (.lst (links.map V.str)) := k7 _ _ alp (k6 _ _ alp el5)
        have h1 : AN[st.toNat]? = some (AN[st.toNat]'(by rw [AN_len]; omega)) := List.getElem?_eq_getElem _
        have h2 : AN[sp.toNat]? = some (AN[sp.toNat]'(by rw [AN_len]; omega)) := List.getElem?_eq_getElem _
        generalize (AN[st.toNat]'(by rw [AN_len]; omega)) = c1 at h1
        generalize (AN[sp.toNat]'(by rw [AN_len]; omega)) = c2 at h2
        refine ⟨by omega, .inl ⟨rfl, _, SqL.of el7⟩, st, rfl, by decide +kernel, c1, by rw [← Int.toNat_of_nonneg s0]; exact atI_nat ((sixN_at (by omega)).trans h1), by decide +kernel, c2, by rw [← Int.toNat_of_nonneg w0]; exact atI_nat ((sixN_at (by omega)).trans h2),
          Nat.le_of_ble_eq_true rfl, _, el7, by rw [List.length_map]; exact small1000 (by omega), ⟨_, rfl⟩, links ++ [tx [c1, c2]], by rw [List.map_append]; rfl, by rw [List.length_append, len5]; rfl, ?_, ((k5.tr k6).tr k7).wr hal, p7.wr alp (p3.ne_c hal)⟩
        intro x hx
        rcases List.mem_append.mp hx with z | z
        · exact ok5 x z
        · rw [List.mem_singleton.mp z]
          refine ⟨isLnk_ok (i := st.toNat) (j := sp.toNat) ?_ ?_ ?_, rfl⟩
          · rw [List.getElem?_take, if_pos (by omega)]
            exact h1
          · rw [List.getElem?_take, if_pos (by omega)]
            exact h2
          · omega
      · rintro σ H5 ⟨⟨v5, v7, v8, rfl⟩, links, el5, len5, ok5, k5, p5⟩
        simp only [tSeq, tAsg, tRet, tRetN, tDrop, tIfS, tNext, tNever, tOp, tUn, tVar, tC, rI0, rI, rU, tTest, tIf, tB, tAnd, tOr, tNot, tAndV, tOrV, tNotV, gName, gSub, gTupH, gCons, gNil, tYes, tCons, tNil, tLst, tTup, tCB, tCall, tMeth, tMake, tFld, sFld, tFor_c, tLc_c, iRng1, iList, iTup, iStr, iSeqB, iEnumB, tM1, tSl, tPart, tNoPart, rSlS, rIxS, tBM, rAppend, tIf, rEq, rNe, scal, hIx, hIxT, hIxB, hSet, hInt, hIntB, hLen, hLenT, hLenB, L2.start, wipe, List.map_cons, List.map_nil, List.set_cons_zero, List.set_cons_succ, List.set_nil, List.length_cons, List.length_nil, List.length_map, List.cons_append, List.nil_append, List.append_nil, List.replicate, List.getElem?_cons_zero, List.getElem?_cons_succ, Option.some.injEq, V.int.injEq, V.bl.injEq, V.ref.injEq, V.str.injEq, List.cons.injEq, exists_eq_left', exists_eq_left, exists_and_left, and_assoc, upd_same, upd_upd, HO.lst.injEq, HO.tup.injEq, atI_0, atI_1, atI_2, atI_3, set_1, set_2, set_3, CDiv, CPow, CMul, List.length_set, Int.reduceToNat, Int.reduceLE, Int.reduceLT, Int.reducePow, Int.reduceNeg, Nat.reduceAdd, Nat.reduceLT, Nat.reduceLeDiff, Nat.reducePow, Nat.zero_add, or_true, true_or, gt_iff_lt, ge_iff_le, and_true, true_and, decide_eq_true_eq, if_true, Bool.false_eq_true, if_false]
        refine ⟨Nat.le_of_ble_eq_true rfl, fun t ht => ?_⟩
        have hR : Right n rows links := ⟨by omega, by omega, hbad, by omega, fun x hx => (ok5 x hx).1⟩
        exact q n t an al rows links _ ((k3.tr k5).new ht) (p5.new ht) hR upd_same ((hl.off p3 k5).off p5 ((Off1.refl).new ht)) (by rw [upd_ne (ne_of_none el5 ht)]; exact el5) fun x hx => (ok5 x hx).2
end
end AK
set_option Elab.async false
set_option linter.all false
set_option maxRecDepth 100000
set_option maxHeartbeats 4000000
namespace AK
open PySem PySem.Spec PyProof.Rows L2
theorem rep_snoc (i : Nat) : (List.replicate i true).map V.bl ++ [V.bl true] = V.bl true :: (List.replicate i true).map V.bl := by
  rw [List.map_replicate, ← List.replicate_succ', List.replicate_succ]
/-- the same data, of a depth of n at most -/
inductive SameD (H : Hp) : Nat → V → V → Prop where
  | non (n : Nat) : SameD H n .non .non
  | bl (n : Nat) (b : Bool) : SameD H n (.bl b) (.bl b)
  | int (n : Nat) (i : Int) : SameD H n (.int i) (.int i)
  | str (n : Nat) (x : Str) : SameD H n (.str x) (.str x)
  | tup {n : Nat} {p q : Addr} {xs ys : List V} (e1 : H p = some (.tup xs)) (e2 : H q = some (.tup ys)) (l : xs.length = ys.length) (l2 : ys.length ≤ 900) (h : ∀ (i : Nat) (x y : V), xs[i]? = some x → ys[i]? = some y → SameD H n x y) : SameD H (n + 1) (.ref p) (.ref q)
  | lst {n : Nat} {p q : Addr} {xs ys : List V} (e1 : H p = some (.lst xs)) (e2 : H q = some (.lst ys)) (l : xs.length = ys.length) (l2 : ys.length ≤ 900) (h : ∀ (i : Nat) (x y : V), xs[i]? = some x → ys[i]? = some y → SameD H n x y) : SameD H (n + 1) (.ref p) (.ref q)
theorem SameD.same {H H' : Hp} (s : Same H H') {n : Nat} {x y : V} (h : SameD H n x y) : SameD H' n x y := by
  induction h with
  | non n => exact .non n
  | bl n b => exact .bl n b
  | int n i => exact .int n i
  | str n x => exact .str n x
  | tup e1 e2 l l2 _ ih => exact .tup (s _ _ e1) (s _ _ e2) l l2 ih
  | lst e1 e2 l l2 _ ih => exact .lst (s _ _ e1) (s _ _ e2) l l2 ih
theorem isi_of {K : PySem.W.Frag} {H : Hp} {x : V} {t : Value} {T : String} {b : Bool} {Q : VK} (h : TyOf K H x t) (e : PySem.W.kitOne K t (.type T) = some b) (q : Q (.bl b) H) : rIsi K [x, .ty T] H Q := ⟨x, .ty T, t, _, b, rfl, .ty T, .base h, e, q⟩
section
variable {P : Program} {w : World} {K : PySem.W.Frag} {mg : Str → Option Value} {base : Heap} {a : Ads}
def spInt : Sp := fun vs H Q _ => ∃ i : Int, vs = [.int i] ∧ Q (.bl true) H
theorem ok_law_is_integer (T : Txt K mg a) : FnOk P w K mg base CX0 1 a.a_law_is_integer a.d_law_is_integer ["actual"] spInt := by
  refine T.F_law_is_integer.ok sc_law_is_integer (fun vs H Q E h => ?_) (fun cdv A outer s H vs Q E hr h => ?_)
  · obtain ⟨_, rfl, _⟩ := h
    rfl
  · obtain ⟨i, rfl, q⟩ := h
    refine ⟨_, (pss_one (ps_ret (pe_and (pe_callB call_isi (by rfl) T.z_isinstance (by decide +kernel) (pa_cons (pv 0) (pa_cons (pe_bltn (v := .ty "int") (by rfl) T.z_int (by decide +kernel) rfl) pa_nil))) (pe_one (pe_not (pe_callB call_isi (by rfl) T.z_isinstance (by decide +kernel) (pa_cons (pv 0) (pa_cons (pe_bltn (v := .ty "bool") (by rfl) T.z_bool (by decide +kernel) rfl) pa_nil)))))))), ?_⟩
    simp only [tSeq, tAsg, tRet, tRetN, tDrop, tIfS, tNext, tNever, tOp, tUn, tVar, tC, rI0, rI, rU, tTest, tIf, tB, tAnd, tOr, tNot, tAndV, tOrV, tNotV, gName, gSub, gTupH, gCons, gNil, tYes, tCons, tNil, tLst, tTup, tCB, tCall, tMeth, tMake, tFld, sFld, tFor_c, tLc_c, iRng1, iList, iTup, iStr, iSeqB, iEnumB, tM1, tSl, tPart, tNoPart, rSlS, rIxS, tBM, rAppend, tIf, rEq, rNe, scal, hIx, hIxT, hIxB, hSet, hInt, hIntB, hLen, hLenT, hLenB, L2.start, wipe, List.map_cons, List.map_nil, List.set_cons_zero, List.set_cons_succ, List.set_nil, List.length_cons, List.length_nil, List.length_map, List.cons_append, List.nil_append, List.append_nil, List.replicate, List.getElem?_cons_zero, List.getElem?_cons_succ, Option.some.injEq, V.int.injEq, V.bl.injEq, V.ref.injEq, V.str.injEq, List.cons.injEq, exists_eq_left', exists_eq_left, exists_and_left, and_assoc, upd_same, upd_upd, HO.lst.injEq, HO.tup.injEq, atI_0, atI_1, atI_2, atI_3, set_1, set_2, set_3, CDiv, CPow, CMul, List.length_set, Int.reduceToNat, Int.reduceLE, Int.reduceLT, Int.reducePow, Int.reduceNeg, Nat.reduceAdd, Nat.reduceLT, Nat.reduceLeDiff, Nat.reducePow, Nat.zero_add, or_true, true_or, gt_iff_lt, ge_iff_le, and_true, true_and, decide_eq_true_eq, if_true, Bool.false_eq_true, if_false]
    refine isi_of (.int i) (by rfl) ⟨true, rfl, iteT (isi_of (.int i) (by rfl) ⟨false, rfl, q⟩)⟩
def spSame (n : Nat) : Sp := fun vs H Q _ => ∃ x y, vs = [x, y] ∧ SameD H n x y ∧ ∀ H', Same H H' → Q (.bl true) H'
theorem ok_same_core (T : Txt K mg a) (m k : Nat) (spI : Sp) (hk : 1 ≤ k) (G_law_same : FnOk P w K mg base CX0 k a.a_law_same a.d_law_same ["actual", "due"] spI) (hI : ∀ n, m = n + 1 → ∀ vs H Q E, spSame n vs H Q E → spI vs H Q E) :
    FnOk P w K mg base CX0 (k + 1) a.a_law_same a.d_law_same ["actual", "due"] (spSame m) := by
  have G_law_is_integer := (ok_law_is_integer (P := P) (w := w) (base := base) T).mono hk
  refine T.F_law_same.ok sc_law_same (fun vs H Q E h => ?_) (fun cdv A outer s H vs Q E hr h => ?_)
  · obtain ⟨_, _, rfl, _⟩ := h
    rfl
  · obtain ⟨x, y, rfl, hs, q⟩ := h
    refine ⟨_, (pss_cons (ps_if (pt_val (pe_callB call_isi (by rfl) T.z_isinstance (by decide +kernel) (pa_cons (pv 1) (pa_cons (pe_bltn (v := .ty "tuple") (by rfl) T.z_tuple (by decide +kernel) rfl) pa_nil))))
      (pss_cons (ps_if (PW.pt (pw_or (pt_not (pt_val (pe_callB call_isi (by rfl) T.z_isinstance (by decide +kernel) (pa_cons (pv 0) (pa_cons (pe_bltn (v := .ty "tuple") (by rfl) T.z_tuple (by decide +kernel) rfl) pa_nil))))) (pw_or1 (pt_cmpR op_ne (pe_callB callLenT (by rfl) T.z_len PySem.boot_len (pa_cons (pv 0) pa_nil)) (pe_callB callLenT (by rfl) T.z_len PySem.boot_len (pa_cons (pv 1) pa_nil)) (nomark _)))))
      (pss_one (ps_ret pe_bl))
      pss_nil)
      (pss_one (ps_ret (pe_callB (cr_all rfl) (by rfl) T.z_all (by decide +kernel) (pa_cons (pe_lc (own := [("k", 2)]) (g := gName 2) (tt := tYes) rfl sc_law_same.nd (pi_range1 (by rfl) T.z_range (pa_cons (pe_callB callLenT (by rfl) T.z_len PySem.boot_len (pa_cons (pv 1) pa_nil)) pa_nil)) (blkOk_by (own := [("k", 2)]) (N := sc_law_same_N) (sc := defScope s_law_same) (by decide +kernel)) (fun _ _ _ _ _ => (pg_name (i := 2) sc_law_same.nd rfl (.inl rfl))) (fun _ _ _ _ _ => pts_nil) (fun _ _ _ _ _ => (pe_call G_law_same (hr.mono (by first | decide | exact Nat.le_refl _ | omega)) (by rfl) T.g_law_same T.F_law_same.kp T.b_law_same .nil pass0 (pa_cons (pe_ix ixHT (pv 0) (pv 2) (fun _ _ => rfl)) (pa_cons (pe_ix ixHT (pv 1) (pv 2) (fun _ _ => rfl)) pa_nil))))) pa_nil)))))
      pss_nil)
      (pss_cons (ps_if (pt_val (pe_callB call_isi (by rfl) T.z_isinstance (by decide +kernel) (pa_cons (pv 1) (pa_cons (pe_bltn (v := .ty "list") (by rfl) T.z_list (by decide +kernel) rfl) pa_nil))))
      (pss_cons (ps_if (PW.pt (pw_or (pt_not (pt_val (pe_callB call_isi (by rfl) T.z_isinstance (by decide +kernel) (pa_cons (pv 0) (pa_cons (pe_bltn (v := .ty "list") (by rfl) T.z_list (by decide +kernel) rfl) pa_nil))))) (pw_or1 (pt_cmpR op_ne (pe_callB callLen (by rfl) T.z_len PySem.boot_len (pa_cons (pv 0) pa_nil)) (pe_callB callLen (by rfl) T.z_len PySem.boot_len (pa_cons (pv 1) pa_nil)) (nomark _)))))
      (pss_one (ps_ret pe_bl))
      pss_nil)
      (pss_one (ps_ret (pe_callB (cr_all rfl) (by rfl) T.z_all (by decide +kernel) (pa_cons (pe_lc (own := [("k", 2)]) (g := gName 2) (tt := tYes) rfl sc_law_same.nd (pi_range1 (by rfl) T.z_range (pa_cons (pe_callB callLen (by rfl) T.z_len PySem.boot_len (pa_cons (pv 1) pa_nil)) pa_nil)) (blkOk_by (own := [("k", 2)]) (N := sc_law_same_N) (sc := defScope s_law_same) (by decide +kernel)) (fun _ _ _ _ _ => (pg_name (i := 2) sc_law_same.nd rfl (.inl rfl))) (fun _ _ _ _ _ => pts_nil) (fun _ _ _ _ _ => (pe_call G_law_same (hr.mono (by first | decide | exact Nat.le_refl _ | omega)) (by rfl) T.g_law_same T.F_law_same.kp T.b_law_same .nil pass0 (pa_cons (pe_ix ixH (pv 0) (pv 2) (fun _ _ => rfl)) (pa_cons (pe_ix ixH (pv 1) (pv 2) (fun _ _ => rfl)) pa_nil))))) pa_nil)))))
      pss_nil)
      (pss_cons (ps_if (pt_cmpR op_isN (pv 1) pe_non (nomark _))
      (pss_one (ps_ret (pe_cmpR op_isN (pv 0) pe_non (nomark _))))
      pss_nil)
      (pss_cons (ps_if (pt_val (pe_callB call_isi (by rfl) T.z_isinstance (by decide +kernel) (pa_cons (pv 1) (pa_cons (pe_bltn (v := .ty "bool") (by rfl) T.z_bool (by decide +kernel) rfl) pa_nil))))
      (pss_one (ps_ret (pe_and (pe_callB call_isi (by rfl) T.z_isinstance (by decide +kernel) (pa_cons (pv 0) (pa_cons (pe_bltn (v := .ty "bool") (by rfl) T.z_bool (by decide +kernel) rfl) pa_nil))) (pe_one (pe_cmpR op_eq (pv 0) (pv 1) (nomark _))))))
      pss_nil)
      (pss_cons (ps_if (pt_val (pe_callB call_isi (by rfl) T.z_isinstance (by decide +kernel) (pa_cons (pv 1) (pa_cons (pe_bltn (v := .ty "str") (by rfl) T.z_str (by decide +kernel) rfl) pa_nil))))
      (pss_one (ps_ret (pe_and (pe_callB call_isi (by rfl) T.z_isinstance (by decide +kernel) (pa_cons (pv 0) (pa_cons (pe_bltn (v := .ty "str") (by rfl) T.z_str (by decide +kernel) rfl) pa_nil))) (pe_one (pe_cmpR op_eq (pv 0) (pv 1) (nomark _))))))
      pss_nil)
      (pss_one (ps_ret (pe_and (pe_call G_law_is_integer (hr.mono (by first | decide | exact Nat.le_refl _ | omega)) (by rfl) T.g_law_is_integer T.F_law_is_integer.kp T.b_law_is_integer .nil pass0 (pa_cons (pv 0) pa_nil)) (pe_one (pe_cmpR op_eq (pv 0) (pv 1) (nomark _))))))))))), ?_⟩
    have q0 := q H (Same.refl _)
    simp only [tSeq, tAsg, tRet, tRetN, tDrop, tIfS, tNext, tNever, tOp, tUn, tVar, tC, rI0, rI, rU, tTest, tIf, tB, tAnd, tOr, tNot, tAndV, tOrV, tNotV, gName, gSub, gTupH, gCons, gNil, tYes, tCons, tNil, tLst, tTup, tCB, tCall, tMeth, tMake, tFld, sFld, tFor_c, tLc_c, iRng1, iList, iTup, iStr, iSeqB, iEnumB, tM1, tSl, tPart, tNoPart, rSlS, rIxS, tBM, rAppend, tIf, rEq, rNe, scal, hIx, hIxT, hIxB, hSet, hInt, hIntB, hLen, hLenT, hLenB, L2.start, wipe, List.map_cons, List.map_nil, List.set_cons_zero, List.set_cons_succ, List.set_nil, List.length_cons, List.length_nil, List.length_map, List.cons_append, List.nil_append, List.append_nil, List.replicate, List.getElem?_cons_zero, List.getElem?_cons_succ, Option.some.injEq, V.int.injEq, V.bl.injEq, V.ref.injEq, V.str.injEq, List.cons.injEq, exists_eq_left', exists_eq_left, exists_and_left, and_assoc, upd_same, upd_upd, HO.lst.injEq, HO.tup.injEq, atI_0, atI_1, atI_2, atI_3, set_1, set_2, set_3, CDiv, CPow, CMul, List.length_set, Int.reduceToNat, Int.reduceLE, Int.reduceLT, Int.reducePow, Int.reduceNeg, Nat.reduceAdd, Nat.reduceLT, Nat.reduceLeDiff, Nat.reducePow, Nat.zero_add, or_true, true_or, gt_iff_lt, ge_iff_le, and_true, true_and, decide_eq_true_eq, if_true, Bool.false_eq_true, if_false]
    cases hs with
    | non n =>
      refine isi_of .non (by rfl) ⟨false, rfl, iteF (isi_of .non (by rfl) ⟨false, rfl, iteF ?_⟩)⟩
      rw [if_pos rfl, decide_eq_true rfl]
      exact q0
    | bl n b =>
      refine isi_of (.bl b) (by rfl) ⟨false, rfl, iteF (isi_of (.bl b) (by rfl) ⟨false, rfl, iteF ?_⟩)⟩
      rw [if_neg (fun z => by cases z)]
      refine isi_of (.bl b) (by rfl) ⟨true, rfl, iteT (isi_of (.bl b) (by rfl) ⟨true, rfl, iteT ⟨rfl, ?_⟩⟩)⟩
      rw [decide_eq_true rfl]
      exact q0
    | int n i =>
      refine isi_of (.int i) (by rfl) ⟨false, rfl, iteF (isi_of (.int i) (by rfl) ⟨false, rfl, iteF ?_⟩)⟩
      rw [if_neg (fun z => by cases z)]
      refine isi_of (.int i) (by rfl) ⟨false, rfl, iteF (isi_of (.int i) (by rfl) ⟨false, rfl, iteF ?_⟩)⟩
      refine ⟨i, rfl, true, rfl, iteT ⟨rfl, ?_⟩⟩
      rw [decide_eq_true rfl]
      exact q0
    | str n x =>
      refine isi_of (.str x) (by rfl) ⟨false, rfl, iteF (isi_of (.str x) (by rfl) ⟨false, rfl, iteF ?_⟩)⟩
      rw [if_neg (fun z => by cases z)]
      refine isi_of (.str x) (by rfl) ⟨false, rfl, iteF (isi_of (.str x) (by rfl) ⟨true, rfl, iteT (isi_of (.str x) (by rfl) ⟨true, rfl, iteT ⟨rfl, ?_⟩⟩)⟩)⟩
      rw [decide_eq_true rfl]
      exact q0
    | @tup n p1 p2 xs ys e1 e2 l l2 h =>
      refine isi_of (.tup e2) (by rfl) ⟨true, rfl, iteT (isi_of (.tup e1) (by rfl) ⟨true, rfl, ?_⟩)⟩
      refine iteF ⟨p1, rfl, _, e1, p2, rfl, _, e2, ?_⟩
      rw [decide_eq_true (by rw [l])]
      refine iteF ⟨p2, rfl, _, e2, by omega, by omega, ?_⟩
      refine lcRng (fun i D H' => H' D = some (.lst ((List.replicate i true).map V.bl)) ∧ Same H H') (fun D hD => ⟨upd_same, same_new hD⟩) ?_ ?_
      · rintro i D H' hD hi ⟨eD, s1⟩
        have hi' : i < ys.length := by omega
        have ei : (0 : Int) + (i : Nat) = (i : Nat) := Int.zero_add _
        have ax : xs[i]? = some (xs[i]'(by omega)) := List.getElem?_eq_getElem _
        have ay : ys[i]? = some ys[i] := List.getElem?_eq_getElem hi'
        refine ⟨rfl, ?_⟩
        simp only [tSeq, tAsg, tRet, tRetN, tDrop, tIfS, tNext, tNever, tOp, tUn, tVar, tC, rI0, rI, rU, tTest, tIf, tB, tAnd, tOr, tNot, tAndV, tOrV, tNotV, gName, gSub, gTupH, gCons, gNil, tYes, tCons, tNil, tLst, tTup, tCB, tCall, tMeth, tMake, tFld, sFld, tFor_c, tLc_c, iRng1, iList, iTup, iStr, iSeqB, iEnumB, tM1, tSl, tPart, tNoPart, rSlS, rIxS, tBM, rAppend, tIf, rEq, rNe, scal, hIx, hIxT, hIxB, hSet, hInt, hIntB, hLen, hLenT, hLenB, L2.start, wipe, List.map_cons, List.map_nil, List.set_cons_zero, List.set_cons_succ, List.set_nil, List.length_cons, List.length_nil, List.length_map, List.cons_append, List.nil_append, List.append_nil, List.replicate, List.getElem?_cons_zero, List.getElem?_cons_succ, Option.some.injEq, V.int.injEq, V.bl.injEq, V.ref.injEq, V.str.injEq, List.cons.injEq, exists_eq_left', exists_eq_left, exists_and_left, and_assoc, upd_same, upd_upd, HO.lst.injEq, HO.tup.injEq, atI_0, atI_1, atI_2, atI_3, set_1, set_2, set_3, CDiv, CPow, CMul, List.length_set, Int.reduceToNat, Int.reduceLE, Int.reduceLT, Int.reducePow, Int.reduceNeg, Nat.reduceAdd, Nat.reduceLT, Nat.reduceLeDiff, Nat.reducePow, Nat.zero_add, or_true, true_or, gt_iff_lt, ge_iff_le, and_true, true_and, decide_eq_true_eq, if_true, Bool.false_eq_true, if_false]
        refine ⟨_, s1 _ _ e1, _, by rw [ei]; exact atI_nat ax, _, s1 _ _ e2, _, by rw [ei]; exact atI_nat ay, ?_⟩
        refine hI n rfl _ _ _ _ ⟨_, _, rfl, (h i _ _ ax ay).same s1, fun H2 s2 => ?_⟩
        refine ⟨_, s2 _ _ eD, by rw [List.length_map, List.length_replicate]; exact small1000 (by omega), ?_, same_out (Same.tr s1 s2) hD⟩
        exact rep_snoc i
      · rintro D H' hD ⟨eD, s1⟩
        refine ⟨D, _, rfl, SqL.of eD, ?_⟩
        rw [show (List.replicate ((ys.length : Nat) : Int).toNat true).all id = true from by simp]
        exact q H' s1
    | @lst n p1 p2 xs ys e1 e2 l l2 h =>
      refine isi_of (.lst e2) (by rfl) ⟨false, rfl, iteF (isi_of (.lst e2) (by rfl) ⟨true, rfl, iteT (isi_of (.lst e1) (by rfl) ⟨true, rfl, ?_⟩)⟩)⟩
      refine iteF ⟨p1, rfl, _, e1, p2, rfl, _, e2, ?_⟩
      rw [decide_eq_true (by rw [l])]
      refine iteF ⟨p2, rfl, _, e2, by omega, by omega, ?_⟩
      refine lcRng (fun i D H' => H' D = some (.lst ((List.replicate i true).map V.bl)) ∧ Same H H') (fun D hD => ⟨upd_same, same_new hD⟩) ?_ ?_
      · rintro i D H' hD hi ⟨eD, s1⟩
        have hi' : i < ys.length := by omega
        have ei : (0 : Int) + (i : Nat) = (i : Nat) := Int.zero_add _
        have ax : xs[i]? = some (xs[i]'(by omega)) := List.getElem?_eq_getElem _
        have ay : ys[i]? = some ys[i] := List.getElem?_eq_getElem hi'
        refine ⟨rfl, ?_⟩
        simp only [tSeq, tAsg, tRet, tRetN, tDrop, tIfS, tNext, tNever, tOp, tUn, tVar, tC, rI0, rI, rU, tTest, tIf, tB, tAnd, tOr, tNot, tAndV, tOrV, tNotV, gName, gSub, gTupH, gCons, gNil, tYes, tCons, tNil, tLst, tTup, tCB, tCall, tMeth, tMake, tFld, sFld, tFor_c, tLc_c, iRng1, iList, iTup, iStr, iSeqB, iEnumB, tM1, tSl, tPart, tNoPart, rSlS, rIxS, tBM, rAppend, tIf, rEq, rNe, scal, hIx, hIxT, hIxB, hSet, hInt, hIntB, hLen, hLenT, hLenB, L2.start, wipe, List.map_cons, List.map_nil, List.set_cons_zero, List.set_cons_succ, List.set_nil, List.length_cons, List.length_nil, List.length_map, List.cons_append, List.nil_append, List.append_nil, List.replicate, List.getElem?_cons_zero, List.getElem?_cons_succ, Option.some.injEq, V.int.injEq, V.bl.injEq, V.ref.injEq, V.str.injEq, List.cons.injEq, exists_eq_left', exists_eq_left, exists_and_left, and_assoc, upd_same, upd_upd, HO.lst.injEq, HO.tup.injEq, atI_0, atI_1, atI_2, atI_3, set_1, set_2, set_3, CDiv, CPow, CMul, List.length_set, Int.reduceToNat, Int.reduceLE, Int.reduceLT, Int.reducePow, Int.reduceNeg, Nat.reduceAdd, Nat.reduceLT, Nat.reduceLeDiff, Nat.reducePow, Nat.zero_add, or_true, true_or, gt_iff_lt, ge_iff_le, and_true, true_and, decide_eq_true_eq, if_true, Bool.false_eq_true, if_false]
        refine ⟨_, s1 _ _ e1, _, by rw [ei]; exact atI_nat ax, _, s1 _ _ e2, _, by rw [ei]; exact atI_nat ay, ?_⟩
        refine hI n rfl _ _ _ _ ⟨_, _, rfl, (h i _ _ ax ay).same s1, fun H2 s2 => ?_⟩
        refine ⟨_, s2 _ _ eD, by rw [List.length_map, List.length_replicate]; exact small1000 (by omega), ?_, same_out (Same.tr s1 s2) hD⟩
        exact rep_snoc i
      · rintro D H' hD ⟨eD, s1⟩
        refine ⟨D, _, rfl, SqL.of eD, ?_⟩
        rw [show (List.replicate ((ys.length : Nat) : Int).toNat true).all id = true from by simp]
        exact q H' s1
theorem ok_law_same (T : Txt K mg a) : ∀ n, FnOk P w K mg base CX0 (n + 2) a.a_law_same a.d_law_same ["actual", "due"] (spSame n)
  | 0 => ok_same_core T 0 1 (fun _ _ _ _ => False) (Nat.le_refl _) ⟨fun _ _ _ _ h => h.elim, fun _ _ _ _ _ _ _ _ _ _ _ _ _ h => h.elim⟩ fun _ h => by cases h
  | n + 1 => ok_same_core T (n + 1) (n + 2) (spSame n) (by omega) (ok_law_same T n) fun m h vs H Q E z => by
    cases h
    exact z
end
end AK
set_option Elab.async false
set_option linter.all false
set_option maxRecDepth 100000
set_option maxHeartbeats 4000000
namespace AK
open PySem PySem.Spec PyProof.Rows L2
theorem SameD.row {H : Hp} {p q : Addr} {r : List Str} (e1 : H p = some (.tup (r.map V.str))) (e2 : H q = some (.tup (r.map V.str))) (hl : r.length ≤ 900) : SameD H 1 (.ref p) (.ref q) :=
  .tup e1 e2 rfl (by rw [List.length_map]; exact hl) fun i x y hx hy => by
    rw [hx] at hy
    cases hy
    obtain ⟨z, _, rfl⟩ := map_at hx
    exact .str 0 z
theorem SameD.rowL {H : Hp} {p q : Addr} {r : List Str} (e1 : H p = some (.lst (r.map V.str))) (e2 : H q = some (.lst (r.map V.str))) (hl : r.length ≤ 900) : SameD H 1 (.ref p) (.ref q) :=
  .lst e1 e2 rfl (by rw [List.length_map]; exact hl) fun i x y hx hy => by
    rw [hx] at hy
    cases hy
    obtain ⟨z, _, rfl⟩ := map_at hx
    exact .str 0 z
theorem SameD.up {H : Hp} {n : Nat} {x y : V} (h : SameD H n x y) : SameD H (n + 1) x y := by
  induction h with
  | non n => exact .non _
  | bl n b => exact .bl _ b
  | int n i => exact .int _ i
  | str n x => exact .str _ x
  | tup e1 e2 l l2 _ ih => exact .tup e1 e2 l l2 ih
  | lst e1 e2 l l2 _ ih => exact .lst e1 e2 l l2 ih
theorem SameD.rows {H : Hp} {p q : Addr} {rows : List (List Str)} {as bs : List Addr} (e1 : H p = some (.tup (as.map V.ref))) (e2 : H q = some (.tup (bs.map V.ref))) (l1 : as.length = rows.length) (l2 : bs.length = rows.length) (hl : rows.length ≤ 900)
    (h1 : ∀ (i : Nat) (r : List Str) (t : Addr), rows[i]? = some r → as[i]? = some t → H t = some (.tup (r.map V.str))) (h2 : ∀ (i : Nat) (r : List Str) (t : Addr), rows[i]? = some r → bs[i]? = some t → H t = some (.tup (r.map V.str))) (hr : ∀ r ∈ rows, r.length ≤ 900) : SameD H 2 (.ref p) (.ref q) :=
  .tup e1 e2 (by rw [List.length_map, List.length_map, l1, l2]) (by rw [List.length_map, l2]; exact hl) fun i x y hx hy => by
    obtain ⟨u, hu, rfl⟩ := map_at hx
    obtain ⟨v, hv, rfl⟩ := map_at hy
    have hi : i < rows.length := by
      rw [← l1]
      exact (List.getElem?_eq_some_iff.mp hu).1
    have e := List.getElem?_eq_getElem hi
    exact .row (h1 i _ u e hu) (h2 i _ v e hv) (hr _ (List.getElem_mem hi))
theorem SameD.three {H : Hp} {n : Nat} {p q : Addr} {x1 x2 x3 y1 y2 y3 : V} (e1 : H p = some (.tup [x1, x2, x3])) (e2 : H q = some (.tup [y1, y2, y3])) (h1 : SameD H n x1 y1) (h2 : SameD H n x2 y2) (h3 : SameD H n x3 y3) : SameD H (n + 1) (.ref p) (.ref q) :=
  .tup e1 e2 rfl (Nat.le_of_ble_eq_true rfl) fun i x y hx hy => by
    match i with
    | 0 => cases hx; cases hy; exact h1
    | 1 => cases hx; cases hy; exact h2
    | 2 => cases hx; cases hy; exact h3
    | i + 3 => simp at hx
theorem SameD.two {H : Hp} {n : Nat} {p q : Addr} {x1 x2 y1 y2 : V} (e1 : H p = some (.tup [x1, x2])) (e2 : H q = some (.tup [y1, y2])) (h1 : SameD H n x1 y1) (h2 : SameD H n x2 y2) : SameD H (n + 1) (.ref p) (.ref q) :=
  .tup e1 e2 rfl (Nat.le_of_ble_eq_true rfl) fun i x y hx hy => by
    match i with
    | 0 => cases hx; cases hy; exact h1
    | 1 => cases hx; cases hy; exact h2
    | i + 2 => simp at hx
theorem row_small {n : Int} {r : List Str} (h : rowBad n r = none) : r.length ≤ 4 ∧ ∀ x ∈ r, isMsg n x = true := by
  unfold rowBad at h
  by_cases c : 4 < r.length
  · rw [if_pos c] at h
    cases h
  · rw [if_neg c] at h
    by_cases d : r.all (isMsg n) = true
    · exact ⟨by omega, List.all_eq_true.mp d⟩
    · rw [if_neg d] at h
      cases h
section
variable {P : Program} {w : World} {K : PySem.W.Frag} {mg : Str → Option Value} {base : Heap} {a : Ads}
/-- the rows as they were drawn, at t -/
def RowsAt (H : Hp) (t an al : Addr) (n : Int) (rows : List (List Str)) (links : List Str) : Prop := H t = some (.tup [.int n, .ref an, .ref al]) ∧ LstAt H an rows ∧ H al = some (.lst (links.map V.str))
def spShown (C : Addr) : Sp := fun vs H Q _ => ∃ (nw t an al : Addr) (n : Int) (rows : List (List Str)) (links : List Str), vs = [.ref nw, .ref t] ∧ NetAt C H nw n rows links ∧ RowsAt H t an al n rows links ∧ Right n rows links ∧ ∀ H', Same H H' → Q (.bl true) H'
theorem ok_law_is_shown (T : Txt K mg a) : FnOk P w K mg base CX0 6 a.a_law_is_shown a.d_law_is_shown ["network", "rows"] (spShown a.c_Network) := by
  have G_law_same := ok_law_same (P := P) (w := w) (base := base) T 3
  refine T.F_law_is_shown.ok sc_law_is_shown (fun vs H Q E h => ?_) (fun cdv A outer s H vs Q E hr h => ?_)
  · obtain ⟨_, _, _, _, _, _, _, rfl, _⟩ := h
    rfl
  · obtain ⟨nw, t, an, al, n, rows, links, rfl, hN, ⟨r1, r2, r3⟩, hR, q⟩ := h
    obtain ⟨dx, tn, tl, as, fs, h1, h2, h3, h4, h5, h6', h7, h8, h9, h10, h11, h12⟩ := hN.ex
    obtain ⟨ls, l1, l2, l3, l4⟩ := r2.ex
    refine ⟨_, (pss_cons (ps_set (i := 2) sc_law_is_shown.nd rfl (.inl rfl) (pe_tup (pa_cons (pe_ix ixHT (pv 1) pe_int (fun _ _ => rfl)) (pa_cons (pe_callTy callTupB (by rfl) T.z_tuple (by decide +kernel) (pa_cons (pe_lc (own := [("row", 3)]) (g := gName 3) (tt := tYes) rfl sc_law_is_shown.nd (pi_list (pe_ix ixHT (pv 1) pe_int (fun _ _ => rfl))) (blkOk_by (own := [("row", 3)]) (N := sc_law_is_shown_N) (sc := defScope s_law_is_shown) (by decide +kernel)) (fun _ _ _ _ _ => (pg_name (i := 3) sc_law_is_shown.nd rfl (.inl rfl))) (fun _ _ _ _ _ => pts_nil) (fun _ _ _ _ _ => (pe_callTy callTupB (by rfl) T.z_tuple (by decide +kernel) (pa_cons (pv 3) pa_nil)))) pa_nil)) (pa_cons (pe_callTy callTupB (by rfl) T.z_tuple (by decide +kernel) (pa_cons (pe_ix ixHT (pv 1) pe_int (fun _ _ => rfl)) pa_nil)) pa_nil)))))
      (pss_one (ps_ret (pe_call G_law_same (hr.mono (by first | decide | exact Nat.le_refl _ | omega)) (by rfl) T.g_law_same T.F_law_same.kp T.b_law_same .nil pass0 (pa_cons (pe_tup (pa_cons (pe_fld (pv 0) rfl) (pa_cons (pe_fld (pv 0) rfl) (pa_cons (pe_fld (pv 0) rfl) pa_nil)))) (pa_cons (pv 2) pa_nil)))))), ?_⟩
    simp only [tSeq, tAsg, tRet, tRetN, tDrop, tIfS, tNext, tNever, tOp, tUn, tVar, tC, rI0, rI, rU, tTest, tIf, tB, tAnd, tOr, tNot, tAndV, tOrV, tNotV, gName, gSub, gTupH, gCons, gNil, tYes, tCons, tNil, tLst, tTup, tCB, tCall, tMeth, tMake, tFld, sFld, tFor_c, tLc_c, iRng1, iList, iTup, iStr, iSeqB, iEnumB, tM1, tSl, tPart, tNoPart, rSlS, rIxS, tBM, rAppend, tIf, rEq, rNe, scal, hIx, hIxT, hIxB, hSet, hInt, hIntB, hLen, hLenT, hLenB, L2.start, wipe, List.map_cons, List.map_nil, List.set_cons_zero, List.set_cons_succ, List.set_nil, List.length_cons, List.length_nil, List.length_map, List.cons_append, List.nil_append, List.append_nil, List.replicate, List.getElem?_cons_zero, List.getElem?_cons_succ, Option.some.injEq, V.int.injEq, V.bl.injEq, V.ref.injEq, V.str.injEq, List.cons.injEq, exists_eq_left', exists_eq_left, exists_and_left, and_assoc, upd_same, upd_upd, HO.lst.injEq, HO.tup.injEq, atI_0, atI_1, atI_2, atI_3, set_1, set_2, set_3, CDiv, CPow, CMul, List.length_set, Int.reduceToNat, Int.reduceLE, Int.reduceLT, Int.reducePow, Int.reduceNeg, Nat.reduceAdd, Nat.reduceLT, Nat.reduceLeDiff, Nat.reducePow, Nat.zero_add, or_true, true_or, gt_iff_lt, ge_iff_le, and_true, true_and, decide_eq_true_eq, if_true, Bool.false_eq_true, if_false]
    refine ⟨_, r1, _, atI_0, _, r1, _, atI_1, an, rfl, ⟨_, SqL.of l1⟩, lcLst (xs := ls.map V.ref) (fun i D H' => ∃ bs : List Addr, H' D = some (.lst (bs.map V.ref)) ∧ bs.length = i ∧ (∀ (j : Nat) (r : List Str) (b : Addr), rows[j]? = some r → bs[j]? = some b → H' b = some (.tup (r.map V.str))) ∧ Same H H') ?_ ?_ ?_ ?_⟩
    · intro D hD
      exact ⟨[], upd_same, rfl, (fun j r b _ e => by cases e), same_new hD⟩
    · rintro i D H' hD _ ⟨bs, eD, bl, ok, s1⟩
      exact SqL.of (s1 _ _ l1)
    · rintro i x D H' hD hx ⟨bs, eD, bl, ok, s1⟩
      obtain ⟨u, hu, rfl⟩ := map_at hx
      have hi : i < rows.length := by
        rw [← l2]
        exact (List.getElem?_eq_some_iff.mp hu).1
      have hri : rows[i]? = some rows[i] := List.getElem?_eq_getElem hi
      refine ⟨rfl, ?_⟩
      simp only [tSeq, tAsg, tRet, tRetN, tDrop, tIfS, tNext, tNever, tOp, tUn, tVar, tC, rI0, rI, rU, tTest, tIf, tB, tAnd, tOr, tNot, tAndV, tOrV, tNotV, gName, gSub, gTupH, gCons, gNil, tYes, tCons, tNil, tLst, tTup, tCB, tCall, tMeth, tMake, tFld, sFld, tFor_c, tLc_c, iRng1, iList, iTup, iStr, iSeqB, iEnumB, tM1, tSl, tPart, tNoPart, rSlS, rIxS, tBM, rAppend, tIf, rEq, rNe, scal, hIx, hIxT, hIxB, hSet, hInt, hIntB, hLen, hLenT, hLenB, L2.start, wipe, List.map_cons, List.map_nil, List.set_cons_zero, List.set_cons_succ, List.set_nil, List.length_cons, List.length_nil, List.length_map, List.cons_append, List.nil_append, List.append_nil, List.replicate, List.getElem?_cons_zero, List.getElem?_cons_succ, Option.some.injEq, V.int.injEq, V.bl.injEq, V.ref.injEq, V.str.injEq, List.cons.injEq, exists_eq_left', exists_eq_left, exists_and_left, and_assoc, upd_same, upd_upd, HO.lst.injEq, HO.tup.injEq, atI_0, atI_1, atI_2, atI_3, set_1, set_2, set_3, CDiv, CPow, CMul, List.length_set, Int.reduceToNat, Int.reduceLE, Int.reduceLT, Int.reducePow, Int.reduceNeg, Nat.reduceAdd, Nat.reduceLT, Nat.reduceLeDiff, Nat.reducePow, Nat.zero_add, or_true, true_or, gt_iff_lt, ge_iff_le, and_true, true_and, decide_eq_true_eq, if_true, Bool.false_eq_true, if_false]
      refine ⟨u, _, rfl, .inl (s1 _ _ (l4 i _ u hri hu)), fun b H2 s2 _ hb => ?_⟩
      have bD : b ≠ D := fun z => by
        rw [z, s2 _ _ eD] at hb
        cases hb
      refine ⟨_, s2 _ _ eD, by rw [List.length_map]; exact small1000 (by have := hR.h1; omega), bs ++ [b], by rw [List.map_append]; rfl, by rw [List.length_append, bl]; rfl, ?_, same_out (Same.tr s1 s2) hD⟩
      intro j r c hj hc
      by_cases hji : j < i
      · rw [List.getElem?_append_left (by omega)] at hc
        have z := ok j r c hj hc
        have cD : c ≠ D := fun e => by
          rw [e, eD] at z
          cases z
        rw [upd_ne cD]
        exact s2 _ _ z
      · rw [List.getElem?_append_right (by omega)] at hc
        have hz : j - bs.length = 0 := by
          have := (List.getElem?_eq_some_iff.mp hc).1
          simp only [List.length_cons, List.length_nil] at this
          omega
        rw [hz] at hc
        cases hc
        have hji2 : j = i := by omega
        subst hji2
        rw [hri] at hj
        cases hj
        rw [upd_ne bD]
        exact hb
    · rintro D H' hD ⟨bs, eD, bl, ok, s1⟩
      refine ⟨D, _, rfl, .inl eD, fun t2 H2 s2 _ e2 => ⟨_, (Same.tr s1 s2) _ _ r1, _, atI_2, al, _, rfl, .inl ((Same.tr s1 s2) _ _ r3), fun t3 H3 s3 _ e3 => ⟨Nat.le_of_ble_eq_true rfl, fun td htd => ?_⟩⟩⟩
      have s4 : ∀ o, Same H (upd H3 td o) := fun o => Same.tr (Same.tr (Same.tr s1 s2) s3) (same_new htd)
      refine ⟨_, _, _, s4 _ _ _ h1, T.C_Network, T.n_Network_variables, _, h2, _, _, _, s4 _ _ _ h1, T.C_Network, T.n_Network_nodes, _, h3, _, _, _, s4 _ _ _ h1, T.C_Network, T.n_Network_links, _, h4, Nat.le_of_ble_eq_true rfl, fun u hu => ?_⟩
      have bl' : bs.length = rows.length := by rw [bl, List.length_map, l2]
      have s5 : ∀ o, Same H (upd (upd H3 td (.tup [.int n, .ref t2, .ref t3])) u o) := fun o => Same.tr (s4 _) (same_new hu)
      have s6 : ∀ o, Same H3 (upd (upd H3 td (.tup [.int n, .ref t2, .ref t3])) u o) := fun o => Same.tr (same_new htd) (same_new hu)
      refine ⟨_, _, rfl, SameD.three upd_same (by rw [upd_ne (fun z => by rw [z, upd_same] at hu; cases hu)]; exact upd_same) (.int 2 n) (SameD.rows (rows := rows) (as := as) (bs := bs) (s5 _ _ _ h9) (s6 _ _ _ (s3 _ _ e2)) h11 bl' (by have := hR.h1; omega) (fun i r b x y => s5 _ _ _ (h12 i r b x y)) (fun i r b x y => s6 _ _ _ (s3 _ _ (s2 _ _ (ok i r b x y)))) fun r hr => by have := (row_small (hR.h2 r hr)).1; omega) (SameD.up (SameD.row (r := links) (s5 _ _ _ h10) (s6 _ _ _ e3) (by have := hR.h3; omega))), fun H' s => q H' (Same.tr (s5 _) s)⟩
end
end AK
set_option Elab.async false
set_option linter.all false
set_option maxRecDepth 100000
set_option maxHeartbeats 4000000
namespace AK
open PySem PySem.Spec PyProof.Rows L2
theorem lcStr {g : TG} {σ : L2.St} {H : Hp} {tt : TT} {te : TE} {vs : List Nat} {Q : VK} {x : Str} (Pv : Nat → Addr → Hp → Prop) (h0 : ∀ D, H D = none → Pv 0 D (upd H D (.lst [])))
    (hs : ∀ i c D H', H D = none → (lt x)[i]? = some c → Pv i D H' → g (.str (tx [c])) (wipe σ vs) H' fun σ2 H2 => wipe σ2 vs = wipe σ vs ∧ tt σ2 H2 fun b H3 => if b = true then te σ2 H3 fun y H4 => ∃ acc, H4 D = some (.lst acc) ∧ acc.length < sizeLine ∧ Pv (i + 1) D (upd H4 D (.lst (acc ++ [y]))) else Pv (i + 1) D H3)
    (hd : ∀ D H', H D = none → Pv (lt x).length D H' → Q (.ref D) H') : contL g tt te vs σ Q (Its x) H := by
  intro D hD
  have hz : (lt x).length = x.cps.size := Array.length_toList ..
  refine ⟨fun i m H' => m = x.cps.size - i ∧ i ≤ x.cps.size ∧ Pv i D H', ⟨x.cps.size, by simp, Nat.zero_le _, h0 D hD⟩, ?_⟩
  rintro i m H' ⟨rfl, hi, p⟩
  by_cases hlt : i < x.cps.size
  · refine .inr ⟨hlt, fun H' => Pv (i + 1) D H', fun H' p' => ⟨x.cps.size - (i + 1), by omega, rfl, hlt, p'⟩, fun y H2 hy => ?_⟩
    obtain ⟨rfl, c, hc, rfl⟩ := hy
    exact hs i c D _ hD (by show x.cps.toList[i]? = some c; rw [Array.getElem?_toList]; exact hc) p
  · have e : i = x.cps.size := by omega
    subst e
    exact .inl ⟨Nat.le_refl _, hd D H' hD (by rw [hz]; exact p)⟩
theorem cutAV {m : Nat} (h : m ≤ 6) : cutS ("abcdef" : Str) none (some (m : Int)) = tx (AV.take m) := by
  rw [cut_take, show lt ("abcdef" : Str) = AV.take 6 from by decide +kernel, List.take_take, Nat.min_eq_left h]
theorem cutAN {m : Nat} (h : m ≤ 6) : cutS ("ABCDEF" : Str) none (some (m : Int)) = tx (AN.take m) := by
  rw [cut_take, show lt ("ABCDEF" : Str) = AN.take 6 from by decide +kernel, List.take_take, Nat.min_eq_left h]
def adjL (l : List Nat) : List Bool := (List.range (l.length - 1)).map fun k => decide ([l.getD k 0] < [l.getD (k + 1) 0])
def S7 : List Nat := lt ("abcdefg" : Str)
def okMsg (n : Nat) (l : List Nat) : Bool := asc (AV.take n) l == ((l.map fun c => decide (c ∈ AV.take n)).all id && (adjL l).all id)
theorem okMsg1 : (List.range 7).all (fun n => okMsg n [] && S7.all fun c => okMsg n [c] && S7.all fun d => okMsg n [c, d] && S7.all fun e => okMsg n [c, d, e]) = true := by decide +kernel
theorem okMsg_of {n : Nat} {l : List Nat} (hn : n ≤ 6) (hl : l.length ≤ 3) (h : ∀ c ∈ l, c ∈ S7) : asc (AV.take n) l = ((l.map fun c => decide (c ∈ AV.take n)).all id && (adjL l).all id) := by
  have z := List.all_eq_true.mp okMsg1 n (List.mem_range.mpr (by omega))
  simp only [Bool.and_eq_true, List.all_eq_true] at z
  obtain ⟨z0, z1⟩ := z
  have g : ∀ {m : List Nat}, okMsg n m = true → asc (AV.take n) m = ((m.map fun c => decide (c ∈ AV.take n)).all id && (adjL m).all id) := fun z => eq_of_beq z
  match l, hl, h with
  | [], _, _ => exact g z0
  | [c], _, h => exact g (z1 c (h c (by simp))).1
  | [c, d], _, h => exact g ((z1 c (h c (by simp))).2 d (h d (by simp))).1
  | [c, d, e], _, h => exact g (((z1 c (h c (by simp))).2 d (h d (by simp))).2 e (h e (by simp)))
  | _ :: _ :: _ :: _ :: _, hl, _ => simp at hl
section
variable {P : Program} {w : World} {K : PySem.W.Frag} {mg : Str → Option Value} {base : Heap} {a : Ads}
def spLM : Sp := fun vs H Q _ => ∃ (n : Int) (l : List Nat), vs = [.int n, .str (tx l)] ∧ 0 ≤ n ∧ n ≤ 6 ∧ l.length ≤ 3 ∧ (∀ c ∈ l, c ∈ S7) ∧ ∀ H', Same H H' → Q (.bl (isMsg n (tx l))) H'
theorem ok_law_is_message (T : Txt K mg a) : FnOk P w K mg base CX0 1 a.a_law_is_message a.d_law_is_message ["variables", "text"] spLM := by
  refine T.F_law_is_message.ok sc_law_is_message (fun vs H Q E h => ?_) (fun cdv A outer s H vs Q E hr h => ?_)
  · obtain ⟨_, _, rfl, _⟩ := h
    rfl
  · obtain ⟨n, l, rfl, n0, n6, hl, h7, q⟩ := h
    obtain ⟨m, rfl⟩ : ∃ m : Nat, n = m := ⟨n.toNat, by omega⟩
    have hm : m ≤ 6 := by omega
    have key := okMsg_of hm hl h7
    refine ⟨_, (pss_cons (ps_set (i := 2) sc_law_is_message.nd rfl (.inr rfl) (pe_slice sl_str pe_str po_none (po_some (pv 0))))
      (pss_cons (ps_if (PW.pt (pw_or (pt_cmpR op_eq (pv 1) pe_str (nomark _)) (pw_or1 (pt_not (pt_val (pe_callB (cr_all rfl) (by rfl) T.z_all (by decide +kernel) (pa_cons (pe_lc (own := [("letter", 3)]) (g := gName 3) (tt := tYes) rfl sc_law_is_message.nd (pi_str (pv 1)) (blkOk_by (own := [("letter", 3)]) (N := sc_law_is_message_N) (sc := defScope s_law_is_message) (by decide +kernel)) (fun _ _ _ _ _ => (pg_name (i := 3) sc_law_is_message.nd rfl (.inl rfl))) (fun _ _ _ _ _ => pts_nil) (fun _ _ _ _ _ => (pe_cmpR op_in_sign (pv 3) (pv 2) rfl))) pa_nil)))))))
      (pss_one (ps_ret pe_bl))
      pss_nil)
      (pss_one (ps_ret (pe_callB (cr_all rfl) (by rfl) T.z_all (by decide +kernel) (pa_cons (pe_lc (own := [("k", 4)]) (g := gName 4) (tt := tYes) rfl sc_law_is_message.nd (pi_range1 (by rfl) T.z_range (pa_cons (pe_op op_sub (pe_callB call_len_str (by rfl) T.z_len PySem.boot_len (pa_cons (pv 1) pa_nil)) pe_int) pa_nil)) (blkOk_by (own := [("k", 4)]) (N := sc_law_is_message_N) (sc := defScope s_law_is_message) (by decide +kernel)) (fun _ _ _ _ _ => (pg_name (i := 4) sc_law_is_message.nd rfl (.inl rfl))) (fun _ _ _ _ _ => pts_nil) (fun _ _ _ _ _ => (pe_cmpR op_lt_str (pe_ix ix_str (pv 1) (pv 4) (fun _ _ => rfl)) (pe_ix ix_str (pv 1) (pe_op op_add (pv 4) pe_int) (fun _ _ => rfl)) (nomark _)))) pa_nil)))))), ?_⟩
    simp only [tSeq, tAsg, tRet, tRetN, tDrop, tIfS, tNext, tNever, tOp, tUn, tVar, tC, rI0, rI, rU, tTest, tIf, tB, tAnd, tOr, tNot, tAndV, tOrV, tNotV, gName, gSub, gTupH, gCons, gNil, tYes, tCons, tNil, tLst, tTup, tCB, tCall, tMeth, tMake, tFld, sFld, tFor_c, tLc_c, iRng1, iList, iTup, iStr, iSeqB, iEnumB, tM1, tSl, tPart, tNoPart, rSlS, rIxS, tBM, rAppend, tIf, rEq, rNe, scal, hIx, hIxT, hIxB, hSet, hInt, hIntB, hLen, hLenT, hLenB, L2.start, wipe, List.map_cons, List.map_nil, List.set_cons_zero, List.set_cons_succ, List.set_nil, List.length_cons, List.length_nil, List.length_map, List.cons_append, List.nil_append, List.append_nil, List.replicate, List.getElem?_cons_zero, List.getElem?_cons_succ, Option.some.injEq, V.int.injEq, V.bl.injEq, V.ref.injEq, V.str.injEq, List.cons.injEq, exists_eq_left', exists_eq_left, exists_and_left, and_assoc, upd_same, upd_upd, HO.lst.injEq, HO.tup.injEq, atI_0, atI_1, atI_2, atI_3, set_1, set_2, set_3, CDiv, CPow, CMul, List.length_set, Int.reduceToNat, Int.reduceLE, Int.reduceLT, Int.reducePow, Int.reduceNeg, Nat.reduceAdd, Nat.reduceLT, Nat.reduceLeDiff, Nat.reducePow, Nat.zero_add, or_true, true_or, gt_iff_lt, ge_iff_le, and_true, true_and, decide_eq_true_eq, if_true, Bool.false_eq_true, if_false]
    have hz : (tx l).length ≤ sizeLine := sizeLe (by rw [len_tx]; omega)
    rw [cutAV hm]
    refine ⟨by decide +kernel, ?_⟩
    have e0 : isMsg (m : Int) (tx l) = (!decide (tx l = ("" : Str)) && ((l.map fun c => decide (c ∈ AV.take m)).all id && (adjL l).all id)) := by
      unfold isMsg
      rw [Int.toNat_natCast, lt_tx, key]
    rw [e0] at q
    refine ite2 (fun c => ?_) (fun c => ?_)
    · have z := q H (Same.refl _)
      rw [decide_eq_true c] at z
      exact z
    · rw [decide_eq_false c] at q
      refine lcStr (fun i D H' => H' D = some (.lst (((l.take i).map fun c => decide (c ∈ AV.take m)).map V.bl)) ∧ Same H H') (fun D hD => ⟨upd_same, same_new hD⟩) ?_ ?_
      · rintro i ch D H' hD hc ⟨eD, s1⟩
        have hc' : l[i]? = some ch := hc
        refine ⟨rfl, ?_⟩
        simp only [tSeq, tAsg, tRet, tRetN, tDrop, tIfS, tNext, tNever, tOp, tUn, tVar, tC, rI0, rI, rU, tTest, tIf, tB, tAnd, tOr, tNot, tAndV, tOrV, tNotV, gName, gSub, gTupH, gCons, gNil, tYes, tCons, tNil, tLst, tTup, tCB, tCall, tMeth, tMake, tFld, sFld, tFor_c, tLc_c, iRng1, iList, iTup, iStr, iSeqB, iEnumB, tM1, tSl, tPart, tNoPart, rSlS, rIxS, tBM, rAppend, tIf, rEq, rNe, scal, hIx, hIxT, hIxB, hSet, hInt, hIntB, hLen, hLenT, hLenB, L2.start, wipe, List.map_cons, List.map_nil, List.set_cons_zero, List.set_cons_succ, List.set_nil, List.length_cons, List.length_nil, List.length_map, List.cons_append, List.nil_append, List.append_nil, List.replicate, List.getElem?_cons_zero, List.getElem?_cons_succ, Option.some.injEq, V.int.injEq, V.bl.injEq, V.ref.injEq, V.str.injEq, List.cons.injEq, exists_eq_left', exists_eq_left, exists_and_left, and_assoc, upd_same, upd_upd, HO.lst.injEq, HO.tup.injEq, atI_0, atI_1, atI_2, atI_3, set_1, set_2, set_3, CDiv, CPow, CMul, List.length_set, Int.reduceToNat, Int.reduceLE, Int.reduceLT, Int.reducePow, Int.reduceNeg, Nat.reduceAdd, Nat.reduceLT, Nat.reduceLeDiff, Nat.reducePow, Nat.zero_add, or_true, true_or, gt_iff_lt, ge_iff_le, and_true, true_and, decide_eq_true_eq, if_true, Bool.false_eq_true, if_false]
        refine ⟨ch, rfl, _, eD, ?_, ?_, same_out s1 hD⟩
        · rw [List.length_map, List.length_map, List.length_take]
          exact small1000 (by omega)
        · rw [take_s hc', List.map_append, List.map_append]
          rfl
      · rintro D H' hD ⟨eD, s1⟩
        rw [lt_tx, List.take_length] at eD
        refine ⟨D, _, rfl, SqL.of eD, _, rfl, ?_⟩
        generalize (l.map fun c => decide (c ∈ AV.take m)).all id = b1 at q
        cases b1 with
        | false => exact iteT (q H' s1)
        | true =>
          refine iteF ⟨hz, by omega, by rw [len_tx]; omega, ?_⟩
          have en : (((tx l).length : Int) - 1).toNat = l.length - 1 := by rw [len_tx]; omega
          rw [en]
          refine lcRng (fun i D H2 => H2 D = some (.lst ((((List.range (l.length - 1)).take i).map fun k => decide ([l.getD k 0] < [l.getD (k + 1) 0])).map V.bl)) ∧ Same H H2) (fun D hD => ⟨upd_same, Same.tr s1 (same_new hD)⟩) ?_ ?_
          · rintro i D2 H2 hD2 hi ⟨eD2, s2⟩
            have ei : (0 : Int) + (i : Nat) = (i : Nat) := Int.zero_add _
            have a1 : l[i]? = some (l.getD i 0) := by
              rw [List.getD_eq_getElem?_getD, List.getElem?_eq_getElem (by omega)]
              rfl
            have a2 : l[i + 1]? = some (l.getD (i + 1) 0) := by
              rw [List.getD_eq_getElem?_getD, List.getElem?_eq_getElem (by omega)]
              rfl
            have hD0 : H D2 = none := by
              cases e : H D2 with
              | none => rfl
              | some o =>
                rw [s1 _ _ e] at hD2
                cases hD2
            refine ⟨rfl, ?_⟩
            simp only [tSeq, tAsg, tRet, tRetN, tDrop, tIfS, tNext, tNever, tOp, tUn, tVar, tC, rI0, rI, rU, tTest, tIf, tB, tAnd, tOr, tNot, tAndV, tOrV, tNotV, gName, gSub, gTupH, gCons, gNil, tYes, tCons, tNil, tLst, tTup, tCB, tCall, tMeth, tMake, tFld, sFld, tFor_c, tLc_c, iRng1, iList, iTup, iStr, iSeqB, iEnumB, tM1, tSl, tPart, tNoPart, rSlS, rIxS, tBM, rAppend, tIf, rEq, rNe, scal, hIx, hIxT, hIxB, hSet, hInt, hIntB, hLen, hLenT, hLenB, L2.start, wipe, List.map_cons, List.map_nil, List.set_cons_zero, List.set_cons_succ, List.set_nil, List.length_cons, List.length_nil, List.length_map, List.cons_append, List.nil_append, List.append_nil, List.replicate, List.getElem?_cons_zero, List.getElem?_cons_succ, Option.some.injEq, V.int.injEq, V.bl.injEq, V.ref.injEq, V.str.injEq, List.cons.injEq, exists_eq_left', exists_eq_left, exists_and_left, and_assoc, upd_same, upd_upd, HO.lst.injEq, HO.tup.injEq, atI_0, atI_1, atI_2, atI_3, set_1, set_2, set_3, CDiv, CPow, CMul, List.length_set, Int.reduceToNat, Int.reduceLE, Int.reduceLT, Int.reducePow, Int.reduceNeg, Nat.reduceAdd, Nat.reduceLT, Nat.reduceLeDiff, Nat.reducePow, Nat.zero_add, or_true, true_or, gt_iff_lt, ge_iff_le, and_true, true_and, decide_eq_true_eq, if_true, Bool.false_eq_true, if_false]
            rw [ei]
            refine ⟨hz, _, atI_nat a1, hz, _, by exact_mod_cast atI_nat a2, _, eD2, ?_, ?_, same_out s2 hD0⟩
            · rw [List.length_map, List.length_map, List.length_take, List.length_range]
              exact small1000 (by omega)
            · rw [take_s (show (List.range (l.length - 1))[i]? = some i by rw [List.getElem?_range (by omega)]), List.map_append, List.map_append]
              rfl
          · rintro D2 H2 hD2 ⟨eD2, s2⟩
            rw [List.take_of_length_le (by rw [List.length_range]; exact Nat.le_refl _)] at eD2
            refine ⟨D2, _, rfl, SqL.of eD2, ?_⟩
            exact q H2 s2
def spLL : Sp := fun vs H Q _ => ∃ (n : Nat) (l : List Nat), vs = [.int n, .str (tx l)] ∧ n ≤ 6 ∧ l.length ≤ 3 ∧ Q (.bl (isLnk n l)) H
theorem ok_law_is_link (T : Txt K mg a) : FnOk P w K mg base CX0 1 a.a_law_is_link a.d_law_is_link ["nodes", "text"] spLL := by
  refine T.F_law_is_link.ok sc_law_is_link (fun vs H Q E h => ?_) (fun cdv A outer s H vs Q E hr h => ?_)
  · obtain ⟨_, _, rfl, _⟩ := h
    rfl
  · obtain ⟨m, l, rfl, hm, hl, q⟩ := h
    refine ⟨_, (pss_cons (ps_set (i := 2) sc_law_is_link.nd rfl (.inl rfl) (pe_slice sl_str pe_str po_none (po_some (pv 0))))
      (pss_one (ps_ret (pe_and (pe_cmpR op_eq (pe_callB call_len_str (by rfl) T.z_len PySem.boot_len (pa_cons (pv 1) pa_nil)) pe_int (nomark _)) (pe_and (pe_cmpR op_in_sign (pe_ix ix_str (pv 1) pe_int (fun _ _ => rfl)) (pv 2) rfl) (pe_and (pe_cmpR op_in_sign (pe_ix ix_str (pv 1) pe_int (fun _ _ => rfl)) (pv 2) rfl) (pe_one (pe_cmpR op_ne (pe_ix ix_str (pv 1) pe_int (fun _ _ => rfl)) (pe_ix ix_str (pv 1) pe_int (fun _ _ => rfl)) (nomark _))))))))), ?_⟩
    simp only [tSeq, tAsg, tRet, tRetN, tDrop, tIfS, tNext, tNever, tOp, tUn, tVar, tC, rI0, rI, rU, tTest, tIf, tB, tAnd, tOr, tNot, tAndV, tOrV, tNotV, gName, gSub, gTupH, gCons, gNil, tYes, tCons, tNil, tLst, tTup, tCB, tCall, tMeth, tMake, tFld, sFld, tFor_c, tLc_c, iRng1, iList, iTup, iStr, iSeqB, iEnumB, tM1, tSl, tPart, tNoPart, rSlS, rIxS, tBM, rAppend, tIf, rEq, rNe, scal, hIx, hIxT, hIxB, hSet, hInt, hIntB, hLen, hLenT, hLenB, L2.start, wipe, List.map_cons, List.map_nil, List.set_cons_zero, List.set_cons_succ, List.set_nil, List.length_cons, List.length_nil, List.length_map, List.cons_append, List.nil_append, List.append_nil, List.replicate, List.getElem?_cons_zero, List.getElem?_cons_succ, Option.some.injEq, V.int.injEq, V.bl.injEq, V.ref.injEq, V.str.injEq, List.cons.injEq, exists_eq_left', exists_eq_left, exists_and_left, and_assoc, upd_same, upd_upd, HO.lst.injEq, HO.tup.injEq, atI_0, atI_1, atI_2, atI_3, set_1, set_2, set_3, CDiv, CPow, CMul, List.length_set, Int.reduceToNat, Int.reduceLE, Int.reduceLT, Int.reducePow, Int.reduceNeg, Nat.reduceAdd, Nat.reduceLT, Nat.reduceLeDiff, Nat.reducePow, Nat.zero_add, or_true, true_or, gt_iff_lt, ge_iff_le, and_true, true_and, decide_eq_true_eq, if_true, Bool.false_eq_true, if_false]
    have hz : (tx l).length ≤ sizeLine := sizeLe (by rw [len_tx]; omega)
    rw [cutAN hm]
    refine ⟨by decide +kernel, hz, ?_⟩
    have mm : ∀ y, (y ∈ (tx (AN.take m)).cps.toList) = (y ∈ AN.take m) := fun y => rfl
    match l, hl, q, hz with
    | [], _, q, hz => exact ite2 (fun c => by rw [len_tx] at c; simp at c) fun _ => q
    | [c], _, q, hz => exact ite2 (fun c => by rw [len_tx] at c; simp at c) fun _ => q
    | [c, d], _, q, hz =>
      rw [show isLnk (m : Int) [c, d] = (!decide (c = d) && (decide (c ∈ AN.take m) && decide (d ∈ AN.take m))) from rfl] at q
      refine ite2 (fun _ => ⟨hz, c, atI_0, c, rfl, ite2 (fun h1 => ⟨hz, d, atI_1, d, rfl, ite2 (fun h2 => ⟨hz, c, atI_0, hz, d, atI_1, ?_⟩) fun h2 => ?_⟩) fun h1 => ?_⟩) fun h => absurd (by rfl) h
      · rw [decide_eq_true (p := c ∈ AN.take m) h1, decide_eq_true (p := d ∈ AN.take m) h2, Bool.and_self, Bool.and_true] at q
        have e : decide (({ cps := #[c] } : Str) = { cps := #[d] }) = decide (c = d) := decide_eq_decide.mpr ⟨fun z => List.head_eq_of_cons_eq (tx_inj (l := [c]) (m := [d]) z), fun z => by rw [z]⟩
        rw [e]
        exact q
      · rw [decide_eq_false (p := d ∈ AN.take m) h2, Bool.and_false, Bool.and_false] at q
        exact q
      · rw [decide_eq_false (p := c ∈ AN.take m) h1, Bool.false_and, Bool.and_false] at q
        exact q
    | c :: d :: e :: l, _, q, hz => exact ite2 (fun c => by rw [len_tx] at c; simp at c; omega) fun _ => q
/-! ### errors, told -/
theorem bad_part (v1 v2 v3 : V) : look (badF v1 v2 v3) "part" = some v1 := by
  unfold look badF
  rw [lookup_put, if_neg (by decide +kernel), lookup_put, if_neg (by decide +kernel), lookup_put, if_pos rfl]
theorem bad_number (v1 v2 v3 : V) : look (badF v1 v2 v3) "number" = some v2 := by
  unfold look badF
  rw [lookup_put, if_neg (by decide +kernel), lookup_put, if_pos rfl]
theorem bad_reason (v1 v2 v3 : V) : look (badF v1 v2 v3) "reason" = some v3 := by
  unfold look badF
  rw [lookup_put, if_pos rfl]
theorem tabG_new {H : Hp} {tb q : Addr} {o : HO} (h : GxR.TabG H tb) (hq : H q = none) : GxR.TabG (upd H q o) tb := tab_same h (same_new hq)
def Off0 (tb : Addr) (H H' : Hp) : Prop := ∀ b o, b ≠ tb → H b = some o → H' b = some o
def spTold (tb : Addr) : Sp := fun vs H Q _ => ∃ (n : Int) (pn pl : Addr) (rows : List (List Str)) (links : List Str), vs = [.int n, .ref pn, .ref pl] ∧ ArgAt H pn rows ∧ RowAt H pl (links.map V.str) ∧ (∀ x ∈ links, x.length ≤ 1000) ∧ GxR.TabG H tb ∧
  (Right n rows links → ∀ H', Off0 tb H H' → GxR.TabG H' tb → Q .non H') ∧ (∀ v1 v2 v3, Wrong n rows links v1 v2 v3 → ∀ t H', Same H H' → H' t = some (.tup [v1, v2, v3]) → Q (.ref t) H')
theorem ok_law_told (T : Txt K mg a) (hT : GxR.TabB base mg a.cG_Network_init a.tG_Network_init) : FnOk P w K mg base CX0 6 a.a_law_told a.d_law_told ["variables", "nodes", "links"] (spTold a.tG_Network_init) := by
  have G_Network_init := ok_Network (P := P) (w := w) (base := base) T hT
  refine T.F_law_told.ok sc_law_told (fun vs H Q E h => ?_) (fun cdv A outer s H vs Q E hr h => ?_)
  · obtain ⟨_, _, _, _, _, rfl, _⟩ := h
    rfl
  · obtain ⟨n, pn, pl, rows, links, rfl, hA, hL, hsz, hTb, q1, q2⟩ := h
    refine ⟨_, (pss_cons (ps_try_as (i := 3) (Wout := (fun _ _ _ _ => False)) rfl rfl sc_law_told.nd rfl rfl ⟨by rfl, by decide, Or.inl T.g_BadNetwork⟩ takes0 (fun W pn xe tk _ => (pss_one (ps_expr (pe_makeS T.K_Network G_Network_init (hr.mono (by first | decide | exact Nat.le_refl _ | omega)) (by rfl) T.g_Network T.b_Network_init (fun σ => passAt tk σ) (pa_cons (pv 0) (pa_cons (pv 1) (pa_cons (pv 2) pa_nil)))))))
      (fun a oe cls d pn hz hf => (pss_cons (ps_if (PW.pt (pw_and (pt_val (pe_callB (call_isD T.X_BadNetwork hz hf) (by rfl) T.z_isinstance (by decide +kernel) (pa_cons (pv 3) (pa_cons (pe_glob (v := .ref _) rfl T.g_KnowError rfl) pa_nil)))) (pw_and1 (pt_val (pe_callB (call_isD T.X_BadNetwork hz hf) (by rfl) T.z_isinstance (by decide +kernel) (pa_cons (pv 3) (pa_cons (pe_bltn (v := .ty "ValueError") (by rfl) T.z_ValueError (by decide +kernel) rfl) pa_nil)))))))
      (pss_one (ps_ret (pe_tup (pa_cons (pe_xf T.X_BadNetwork.xf T.n_BadNetwork_part hz hf (pv 3)) (pa_cons (pe_xf T.X_BadNetwork.xf T.n_BadNetwork_number hz hf (pv 3)) (pa_cons (pe_xf T.X_BadNetwork.xf T.n_BadNetwork_reason hz hf (pv 3)) pa_nil))))))
      pss_nil)
      (pss_one (ps_ret (pe_tup (pa_cons pe_str (pa_cons pe_non (pa_cons pe_str pa_nil)))))))))
      (pss_one (ps_ret pe_non))), ?_⟩
    refine ⟨_, rfl, _, rfl, _, rfl, fun x dx hx hdx hne => ?_⟩
    have s0 : Same H (upd (upd H dx (.own x)) x (.ins a.c_Network dx [])) := fun b o e => by
      rw [upd_ne (ne_of_none e hx), upd_ne (ne_of_none e hdx)]
      exact e
    refine ⟨x, dx, n, pn, pl, rows, links, rfl, upd_same, hA.same s0, row_same hL s0, hsz, tab_same hTb s0, fun hR H' off tab _ => ⟨rfl, q1 hR H' (fun b o hb e => off b o hb (ne_of_none e hx) (s0 b o e)) tab⟩, fun v1 v2 v3 hW d H' hb => ?_⟩
    refine ⟨true, T.X_BadNetwork.one, fun _ e he => ?_, fun z => by cases z⟩
    simp only [tSeq, tAsg, tRet, tRetN, tDrop, tIfS, tNext, tNever, tOp, tUn, tVar, tC, rI0, rI, rU, tTest, tIf, tB, tAnd, tOr, tNot, tAndV, tOrV, tNotV, gName, gSub, gTupH, gCons, gNil, tYes, tCons, tNil, tLst, tTup, tCB, tCall, tMeth, tMake, tFld, sFld, tFor_c, tLc_c, iRng1, iList, iTup, iStr, iSeqB, iEnumB, tM1, tSl, tPart, tNoPart, rSlS, rIxS, tBM, rAppend, tIf, rEq, rNe, scal, hIx, hIxT, hIxB, hSet, hInt, hIntB, hLen, hLenT, hLenB, L2.start, wipe, List.map_cons, List.map_nil, List.set_cons_zero, List.set_cons_succ, List.set_nil, List.length_cons, List.length_nil, List.length_map, List.cons_append, List.nil_append, List.append_nil, List.replicate, List.getElem?_cons_zero, List.getElem?_cons_succ, Option.some.injEq, V.int.injEq, V.bl.injEq, V.ref.injEq, V.str.injEq, List.cons.injEq, exists_eq_left', exists_eq_left, exists_and_left, and_assoc, upd_same, upd_upd, HO.lst.injEq, HO.tup.injEq, atI_0, atI_1, atI_2, atI_3, set_1, set_2, set_3, CDiv, CPow, CMul, List.length_set, Int.reduceToNat, Int.reduceLE, Int.reduceLT, Int.reducePow, Int.reduceNeg, Nat.reduceAdd, Nat.reduceLT, Nat.reduceLeDiff, Nat.reducePow, Nat.zero_add, or_true, true_or, gt_iff_lt, ge_iff_le, and_true, true_and, decide_eq_true_eq, if_true, Bool.false_eq_true, if_false]
    refine ⟨_, _, true, d, _, rfl, rfl, .own _, T.i_BadNetwork_KnowError, rfl, hb.2, true, rfl, iteT ⟨_, _, true, d, _, rfl, rfl, .ty _, T.i_BadNetwork_ValueError, rfl, hb.2, true, rfl, iteT ?_⟩⟩
    refine ⟨_, rfl, rfl, rfl, d, _, v1, rfl, hb.2, bad_part v1 v2 v3, ?_⟩
    refine ⟨_, rfl, rfl, rfl, d, _, v2, rfl, hb.2, bad_number v1 v2 v3, ?_⟩
    refine ⟨_, rfl, rfl, rfl, d, _, v3, rfl, hb.2, bad_reason v1 v2 v3, ?_⟩
    exact ⟨Nat.le_of_ble_eq_true rfl, fun t ht => q2 _ _ _ hW t _ (Same.tr (Same.tr s0 hb.1) (same_new ht)) upd_same⟩
def spNum (C : Addr) : Sp := fun vs H Q _ => ∃ (p : Addr) (n : Int) (rows : List (List Str)) (links : List Str) (x : Str), vs = [.ref p, .str x] ∧ NetAt C H p n rows links ∧ rows.length ≤ 6 ∧ x.length ≤ 100 ∧ (∀ c ∈ lt x, c < 1000) ∧
  (∀ (k c : Nat), x = tx [c] → (AN.take rows.length)[k]? = some c → Q (.int k) H) ∧ ((∀ c, x = tx [c] → ¬ c ∈ AN.take rows.length) → ∀ t H', Same H H' → H' t = some (.tup [.str "none", .bl true]) → Q (.ref t) H')
theorem ok_law_number (T : Txt K mg a) : FnOk P w K mg base CX0 4 a.a_law_number a.d_law_number ["network", "text"] (spNum a.c_Network) := by
  have G_node_number := ok_node_number (P := P) (w := w) (base := base) T
  refine T.F_law_number.ok sc_law_number (fun vs H Q E h => ?_) (fun cdv A outer s H vs Q E hr h => ?_)
  · obtain ⟨_, _, _, _, _, rfl, _⟩ := h
    rfl
  · obtain ⟨p, n, rows, links, x, rfl, hN, h6, hx, hch, q1, q2⟩ := h
    refine ⟨_, (pss_one (ps_try_as (i := 2) (Wout := (fun _ _ _ _ => False)) rfl rfl sc_law_number.nd rfl rfl ⟨by rfl, by decide, Or.inl T.g_NoNode⟩ takes0 (fun W pn xe tk _ => (pss_one (ps_ret (pe_callS G_node_number (hr.mono (by first | decide | exact Nat.le_refl _ | omega)) (by rfl) T.g_node_number T.F_node_number.kp T.b_node_number (fun σ => passAt tk σ) (pa_cons (pv 0) (pa_cons (pv 1) pa_nil))))))
      (fun a oe cls d pn hz hf => (pss_one (ps_ret (pe_tup (pa_cons pe_str (pa_cons (pe_callB (call_isN T.X_NoNode hz hf) (by rfl) T.z_isinstance (by decide +kernel) (pa_cons (pv 2) (pa_cons (pe_glob (v := .ref _) rfl T.g_KnowError rfl) pa_nil))) pa_nil)))))))), ?_⟩
    refine ⟨_, rfl, _, rfl, p, n, rows, links, x, rfl, hN, h6, hx, hch, q1, fun hno => ?_⟩
    refine ⟨true, T.X_NoNode.one, fun _ e he => ?_, fun z => by cases z⟩
    simp only [tSeq, tAsg, tRet, tRetN, tDrop, tIfS, tNext, tNever, tOp, tUn, tVar, tC, rI0, rI, rU, tTest, tIf, tB, tAnd, tOr, tNot, tAndV, tOrV, tNotV, gName, gSub, gTupH, gCons, gNil, tYes, tCons, tNil, tLst, tTup, tCB, tCall, tMeth, tMake, tFld, sFld, tFor_c, tLc_c, iRng1, iList, iTup, iStr, iSeqB, iEnumB, tM1, tSl, tPart, tNoPart, rSlS, rIxS, tBM, rAppend, tIf, rEq, rNe, scal, hIx, hIxT, hIxB, hSet, hInt, hIntB, hLen, hLenT, hLenB, L2.start, wipe, List.map_cons, List.map_nil, List.set_cons_zero, List.set_cons_succ, List.set_nil, List.length_cons, List.length_nil, List.length_map, List.cons_append, List.nil_append, List.append_nil, List.replicate, List.getElem?_cons_zero, List.getElem?_cons_succ, Option.some.injEq, V.int.injEq, V.bl.injEq, V.ref.injEq, V.str.injEq, List.cons.injEq, exists_eq_left', exists_eq_left, exists_and_left, and_assoc, upd_same, upd_upd, HO.lst.injEq, HO.tup.injEq, atI_0, atI_1, atI_2, atI_3, set_1, set_2, set_3, CDiv, CPow, CMul, List.length_set, Int.reduceToNat, Int.reduceLE, Int.reduceLT, Int.reducePow, Int.reduceNeg, Nat.reduceAdd, Nat.reduceLT, Nat.reduceLeDiff, Nat.reducePow, Nat.zero_add, or_true, true_or, gt_iff_lt, ge_iff_le, and_true, true_and, decide_eq_true_eq, if_true, Bool.false_eq_true, if_false]
    exact ⟨_, _, true, rfl, rfl, rfl, .own _, T.i_NoNode_KnowError, Nat.le_of_ble_eq_true rfl, fun t ht => q2 hno t _ (same_new ht) upd_same⟩
end
end AK
set_option Elab.async false
set_option linter.all false
set_option maxRecDepth 100000
set_option maxHeartbeats 4000000
namespace AK
open PySem PySem.Spec PyProof.Rows L2
theorem Wrong.no {n : Int} {rows : List (List Str)} {links : List Str} {v1 v2 v3 : V} (h : Wrong n rows links v1 v2 v3) (r : Right n rows links) : False := by
  have h0 := r.h0
  have h1 := r.h1
  have h3 := r.h3
  cases h with
  | vars h => omega
  | nodes _ h => omega
  | row _ _ hi ok b =>
    rw [r.h2 _ (List.mem_of_getElem? hi)] at b
    cases b
  | links _ _ _ h => omega
  | link _ _ _ _ hi ok b =>
    rw [r.h4 _ (List.mem_of_getElem? hi)] at b
    cases b
theorem mem_take_of {α : Type} {l : List α} {i j : Nat} {x : α} (h : l[i]? = some x) (hij : i < j) : x ∈ l.take j := by
  refine List.mem_of_getElem? (i := i) ?_
  rw [List.getElem?_take, if_pos hij]
  exact h
theorem Wrong.det {n : Int} {rows : List (List Str)} {links : List Str} {v1 v2 v3 w1 w2 w3 : V} (h : Wrong n rows links v1 v2 v3) (g : Wrong n rows links w1 w2 w3) : w1 = v1 ∧ w2 = v2 ∧ w3 = v3 := by
  cases h with
  | vars h =>
    cases g with
    | vars g => exact ⟨rfl, rfl, rfl⟩
    | nodes g0 g => omega
    | row g0 => omega
    | links g0 => omega
    | link g0 => omega
  | nodes h0 h =>
    cases g with
    | vars g => omega
    | nodes g0 g => exact ⟨rfl, rfl, rfl⟩
    | row g0 g1 => omega
    | links g0 g1 => omega
    | link g0 g1 => omega
  | @row h0 h1 i r why hi ok b =>
    cases g with
    | vars g => omega
    | nodes g0 g => omega
    | @row g0 g1 j r' why' hj ok' b' =>
      rcases Nat.lt_trichotomy i j with z | z | z
      · rw [ok' _ (mem_take_of hi z)] at b
        cases b
      · subst z
        rw [hi] at hj
        cases hj
        rw [b] at b'
        cases b'
        exact ⟨rfl, rfl, rfl⟩
      · rw [ok _ (mem_take_of hj z)] at b'
        cases b'
    | links g0 g1 g2 => 
      rw [g2 _ (List.mem_of_getElem? hi)] at b
      cases b
    | link g0 g1 g2 =>
      rw [g2 _ (List.mem_of_getElem? hi)] at b
      cases b
  | links h0 h1 h2 h =>
    cases g with
    | vars g => omega
    | nodes g0 g => omega
    | row g0 g1 hi ok b =>
      rw [h2 _ (List.mem_of_getElem? hi)] at b
      cases b
    | links g0 g1 g2 g => exact ⟨rfl, rfl, rfl⟩
    | link g0 g1 g2 g3 => omega
  | @link h0 h1 h2 h3 i x hi ok b =>
    cases g with
    | vars g => omega
    | nodes g0 g => omega
    | row g0 g1 hi ok b =>
      rw [h2 _ (List.mem_of_getElem? hi)] at b
      cases b
    | links g0 g1 g2 g => omega
    | @link g0 g1 g2 g3 j y hj ok' b' =>
      rcases Nat.lt_trichotomy i j with z | z | z
      · rw [ok' _ (mem_take_of hi z)] at b
        cases b
      · subst z
        exact ⟨rfl, rfl, rfl⟩
      · rw [ok _ (mem_take_of hj z)] at b'
        cases b'
theorem Wrong.flat {n : Int} {rows : List (List Str)} {links : List Str} {v1 v2 v3 : V} (h : Wrong n rows links v1 v2 v3) (H : Hp) : SameD H 0 v1 v1 ∧ SameD H 0 v2 v2 ∧ SameD H 0 v3 v3 := by
  cases h with
  | vars h => exact ⟨.str _ _, .non _, .str _ _⟩
  | nodes h0 h => exact ⟨.str _ _, .non _, .str _ _⟩
  | row => exact ⟨.str _ _, .int _ _, .str _ _⟩
  | links => exact ⟨.str _ _, .non _, .str _ _⟩
  | link => exact ⟨.str _ _, .int _ _, .str _ _⟩
/-- what is told is what is due -/
theorem told_fin {tb : Addr} {n : Int} {pn pl : Addr} {rows : List (List Str)} {links : List Str} {v1 v2 v3 : V} {H : Hp} {Q : VK} (hW : Wrong n rows links v1 v2 v3) (hA : ArgAt H pn rows) (hL : RowAt H pl (links.map V.str)) (hsz : ∀ x ∈ links, x.length ≤ 1000) (hTb : GxR.TabG H tb) (q : ∀ H', Q (.bl true) H') :
    spTold tb [.int n, .ref pn, .ref pl] H (fun x H1 => 3 ≤ sizeLine ∧ ∀ p, H1 p = none → spSame 1 [x, .ref p] (upd H1 p (.tup [v1, v2, v3])) Q E0) E0 := by
  refine ⟨n, pn, pl, rows, links, rfl, hA, hL, hsz, hTb, fun hR => (hW.no hR).elim, fun w1 w2 w3 hg t H' hs e => ⟨Nat.le_of_ble_eq_true rfl, fun p hp => ?_⟩⟩
  obtain ⟨rfl, rfl, rfl⟩ := hW.det hg
  obtain ⟨f1, f2, f3⟩ := hW.flat (upd H' p (.tup [w1, w2, w3]))
  refine ⟨_, _, rfl, SameD.three (by rw [upd_ne (ne_of_none e hp)]; exact e) upd_same f1 f2 f3, fun H2 _ => q H2⟩
theorem argL {H : Hp} {p : Addr} {as : List Addr} {rows : List (List Str)} (h : H p = some (.lst (as.map V.ref))) (hl : as.length = rows.length) (hr : ∀ (i : Nat) (r : List Str) (t : Addr), rows[i]? = some r → as[i]? = some t → H t = some (.lst (r.map V.str))) : ArgAt H p rows :=
  ⟨as, .inl h, hl, fun i r t e1 e2 => .inl (hr i r t e1 e2)⟩
theorem rep_flat {α : Type} (k : Nat) (v : α) : (List.replicate k [v]).flatten = List.replicate k v := by
  induction k with
  | zero => rfl
  | succ k ih => rw [List.replicate_succ, List.flatten_cons, ih, List.replicate_succ]; rfl
theorem rep_of {H : Hp} {l : Addr} {v : V} {k : Int} {Q : VK} (e : H l = some (.lst [v])) (k0 : 0 ≤ k) (k1 : k ≤ 1000) (q : ∀ p, H p = none → Q (.ref p) (upd H p (.lst (List.replicate k.toNat v)))) : rRep (.ref l) (.int k) H Q :=
  ⟨l, k, [v], rfl, rfl, e, by omega, by omega, by rw [List.length_cons, List.length_nil]; exact sizeLe (by omega), fun p hp => by
    rw [rep_flat]
    exact q p hp⟩
theorem cat_of {H : Hp} {l b : Addr} {xs zs : List V} {Q : VK} (e : H l = some (.lst xs)) (e2 : H b = some (.lst zs)) (h : xs.length + zs.length ≤ 1000) (q : ∀ p, H p = none → Q (.ref p) (upd H p (.lst (xs ++ zs)))) : rCat (.ref l) (.ref b) H Q := ⟨l, b, xs, zs, rfl, rfl, e, e2, sizeLe h, q⟩
theorem cut_to (xs : List V) (i : Nat) : L2.cutV xs none (some (i : Int)) = xs.take i := by
  unfold L2.cutV
  have h0 : HT.sIx xs.length 0 none = 0 := rfl
  have h1 : HT.sIx xs.length xs.length (some (i : Int)) = min i xs.length := by
    unfold HT.sIx
    simp only
    split <;> omega
  rw [h0, h1, List.drop_zero, Nat.sub_zero]
  by_cases h : i ≤ xs.length
  · rw [Nat.min_eq_left h]
  · rw [Nat.min_eq_right (Nat.le_of_not_le h), List.take_of_length_le (Nat.le_refl _), List.take_of_length_le (Nat.le_of_not_le h)]
theorem cut_from (xs : List V) (i : Nat) : L2.cutV xs (some (i : Int)) none = xs.drop i := by
  unfold L2.cutV
  have h0 : HT.sIx xs.length xs.length none = xs.length := rfl
  have h1 : HT.sIx xs.length 0 (some (i : Int)) = min i xs.length := by
    unfold HT.sIx
    simp only
    split <;> omega
  rw [h0, h1]
  by_cases h : i ≤ xs.length
  · rw [Nat.min_eq_left h, List.take_of_length_le (by rw [List.length_drop]; omega)]
  · rw [Nat.min_eq_right (Nat.le_of_not_le h), List.drop_of_length_le (Nat.le_refl _), List.drop_of_length_le (Nat.le_of_not_le h)]
    simp
theorem cut_last (xs : List V) : L2.cutV xs (some (-4)) none = xs.drop (xs.length - 4) := by
  unfold L2.cutV
  have h0 : HT.sIx xs.length xs.length none = xs.length := rfl
  have h1 : HT.sIx xs.length 0 (some (-4)) = xs.length - 4 := by
    unfold HT.sIx
    simp only
    split <;> omega
  rw [h0, h1, List.take_of_length_le (by rw [List.length_drop]; omega)]
theorem sl_of {K : PySem.W.Frag} {H : Hp} {l : Addr} {xs : List V} {lo hi : Option Int} {Q : VK} (e : H l = some (.lst xs)) (q : ∀ p, H p = none → Q (.ref p) (upd H p (.lst (L2.cutV xs lo hi)))) : rSlL K (.ref l) lo hi H Q := ⟨l, xs, rfl, SqL.of e, q⟩
/-- addresses of lists of texts, and the texts -/
inductive RR (H : Hp) : List Addr → List (List Str) → Prop where
  | nil : RR H [] []
  | cons {t : Addr} {r : List Str} {as : List Addr} {rows : List (List Str)} (e : H t = some (.lst (r.map V.str))) (h : RR H as rows) : RR H (t :: as) (r :: rows)
theorem RR.same {H H' : Hp} {as : List Addr} {rows : List (List Str)} (h : RR H as rows) (s : Same H H') : RR H' as rows := by
  induction h with
  | nil => exact .nil
  | cons e _ ih => exact .cons (s _ _ e) ih
theorem RR.off {H H' : Hp} {p c : Addr} {as : List Addr} {rows : List (List Str)} (h : RR H as rows) (k : PoolAt H p c) (s : Off1 p H H') : RR H' as rows := by
  induction h with
  | nil => exact .nil
  | cons e _ ih => exact .cons (s _ _ (k.ne_str e) e) ih
theorem RR.len {H : Hp} {as : List Addr} {rows : List (List Str)} (h : RR H as rows) : as.length = rows.length := by
  induction h with
  | nil => rfl
  | cons e _ ih => rw [List.length_cons, List.length_cons, ih]
theorem RR.take {H : Hp} {as : List Addr} {rows : List (List Str)} (h : RR H as rows) : ∀ n, RR H (as.take n) (rows.take n) := by
  induction h with
  | nil => intro n; rw [List.take_nil, List.take_nil]; exact .nil
  | cons e _ ih =>
    intro n
    cases n with
    | zero => exact .nil
    | succ n => exact .cons e (ih n)
theorem RR.app {H : Hp} {as bs : List Addr} {rows qs : List (List Str)} (h : RR H as rows) (g : RR H bs qs) : RR H (as ++ bs) (rows ++ qs) := by
  induction h with
  | nil => exact g
  | cons e _ ih => exact .cons e ih
theorem RR.rep {H : Hp} {t : Addr} {r : List Str} (e : H t = some (.lst (r.map V.str))) : ∀ k, RR H (List.replicate k t) (List.replicate k r)
  | 0 => .nil
  | k + 1 => .cons e (RR.rep e k)
theorem RR.at {H : Hp} {as : List Addr} {rows : List (List Str)} (h : RR H as rows) : ∀ (i : Nat) (r : List Str) (t : Addr), rows[i]? = some r → as[i]? = some t → H t = some (.lst (r.map V.str)) := by
  induction h with
  | nil => intro i r t e; cases e
  | cons e _ ih =>
    intro i r t e1 e2
    cases i with
    | zero => cases e1; cases e2; exact e
    | succ i => exact ih i r t e1 e2
theorem RR.of {H : Hp} : ∀ {as : List Addr} {rows : List (List Str)}, as.length = rows.length → (∀ (i : Nat) (r : List Str) (t : Addr), rows[i]? = some r → as[i]? = some t → H t = some (.lst (r.map V.str))) → RR H as rows
  | [], [], _, _ => .nil
  | t :: as, r :: rows, hl, h => .cons (h 0 r t rfl rfl) (RR.of (Nat.succ.inj hl) fun i r t e1 e2 => h (i + 1) r t e1 e2)
theorem RR.arg {H : Hp} {p : Addr} {as : List Addr} {rows : List (List Str)} (h : RR H as rows) (e : H p = some (.lst (as.map V.ref))) : ArgAt H p rows := argL e h.len h.at
theorem at_mid {α : Type} {l : List α} {x : α} {m : List α} {i : Nat} (h : i ≤ l.length) : (l.take i ++ [x] ++ m)[i]? = some x := by
  have hl : (l.take i).length = i := by rw [List.length_take]; omega
  rw [List.append_assoc, List.getElem?_append_right (by omega), hl, Nat.sub_self]
  rfl
theorem take_mid {α : Type} {l : List α} {x : α} {m : List α} {i : Nat} (h : i ≤ l.length) : (l.take i ++ [x] ++ m).take i = l.take i := by
  have hl : (l.take i).length = i := by rw [List.length_take]; omega
  rw [List.append_assoc, List.take_append_of_le_length (by omega), List.take_of_length_le (by omega)]
/-- .. what is due stands already -/
theorem told_fin2 {tb : Addr} {n : Int} {pn pl p : Addr} {rows : List (List Str)} {links : List Str} {v1 v2 v3 : V} {H : Hp} {Q : VK} (hW : Wrong n rows links v1 v2 v3) (hA : ArgAt H pn rows) (hL : RowAt H pl (links.map V.str)) (hsz : ∀ x ∈ links, x.length ≤ 1000) (hTb : GxR.TabG H tb) (hp : H p = some (.tup [v1, v2, v3])) (q : ∀ H', Q (.bl true) H') :
    spTold tb [.int n, .ref pn, .ref pl] H (fun x H1 => spSame 1 [x, .ref p] H1 Q E0) E0 := by
  refine ⟨n, pn, pl, rows, links, rfl, hA, hL, hsz, hTb, fun hR => (hW.no hR).elim, fun w1 w2 w3 hg t H' hs e => ?_⟩
  obtain ⟨rfl, rfl, rfl⟩ := hW.det hg
  obtain ⟨f1, f2, f3⟩ := hW.flat H'
  exact ⟨_, _, rfl, SameD.three e (hs _ _ hp) f1 f2 f3, fun H2 _ => q H2⟩
theorem told_ok {tb : Addr} {n : Int} {pn pl : Addr} {rows : List (List Str)} {links : List Str} {H : Hp} {Q : VK} (hR : Right n rows links) (hA : ArgAt H pn rows) (hL : RowAt H pl (links.map V.str)) (hsz : ∀ x ∈ links, x.length ≤ 1000) (hTb : GxR.TabG H tb) (q : ∀ H', Q (.bl true) H') :
    spTold tb [.int n, .ref pn, .ref pl] H (fun x H1 => spSame 1 [x, .non] H1 Q E0) E0 :=
  ⟨n, pn, pl, rows, links, rfl, hA, hL, hsz, hTb, fun _ H' _ _ => ⟨_, _, rfl, .non _, fun H2 _ => q H2⟩, fun v1 v2 v3 hW => (hW.no hR).elim⟩
def badV : List Str := ["", "A", "ba", "aa", "g", "abcdefg", " a", "a,b"]
def badL : List Str := ["", "A", "AA", "ab", "AG", "GA", "BAB", "A "]
theorem badV_all : (List.range 7).all (fun m => badV.all fun x => !isMsg (m : Int) x) = true := by decide +kernel
theorem badL_all : (List.range 7).all (fun m => badL.all fun x => !isLnk (m : Int) (lt x)) = true := by decide +kernel
theorem badV_no {n : Int} {x : Str} (h0 : 0 ≤ n ∧ n ≤ 6) (hx : x ∈ badV) : isMsg n x = false := by
  obtain ⟨m, rfl⟩ : ∃ m : Nat, n = m := ⟨n.toNat, by omega⟩
  have z := List.all_eq_true.mp (List.all_eq_true.mp badV_all m (List.mem_range.mpr (by omega))) x hx
  simpa using z
theorem badL_no {m : Nat} {x : Str} (h0 : m ≤ 6) (hx : x ∈ badL) : isLnk (m : Int) (lt x) = false := by
  have z := List.all_eq_true.mp (List.all_eq_true.mp badL_all m (List.mem_range.mpr (by omega))) x hx
  simpa using z
theorem badL_len : ∀ x ∈ badL, x.length ≤ 10 := by decide +kernel
theorem last_bad {n : Int} {l : List Str} {x : Str} (hx : isMsg n x = false) : rowBad n ((l ++ [x]).drop ((l ++ [x]).length - 4)) = some ("message" : Str) := by
  unfold rowBad
  rw [if_neg (by rw [List.length_drop]; omega), if_neg]
  intro z
  have hm : x ∈ (l ++ [x]).drop ((l ++ [x]).length - 4) := by
    rw [List.length_append, List.drop_append_of_le_length (by simp only [List.length_cons, List.length_nil]; omega)]
    exact List.mem_append_right _ (List.mem_singleton.mpr rfl)
  have := List.all_eq_true.mp z x hm
  rw [hx] at this
  cases this
section
variable {P : Program} {w : World} {K : PySem.W.Frag} {mg : Str → Option Value} {base : Heap} {a : Ads}
def spRef (tb : Addr) : Sp := fun vs H Q _ => ∃ (p c t an al : Addr) (n : Int) (rows : List (List Str)) (links : List Str), vs = [.ref p, .ref t] ∧ PoolAt H p c ∧ RowsAt H t an al n rows links ∧ Right n rows links ∧ GxR.TabG H tb ∧ (∀ x ∈ links, x.length = 2) ∧ ∀ H', Q (.bl true) H'
theorem ok_law_is_refused (T : Txt K mg a) (hT : GxR.TabB base mg a.cG_Network_init a.tG_Network_init) : FnOk P w K mg base CX0 7 a.a_law_is_refused a.d_law_is_refused ["pool", "rows"] (spRef a.tG_Network_init) := by
  have G_law_take := ok_law_take (P := P) (w := w) (base := base) T
  have G_law_told := ok_law_told (P := P) (w := w) (base := base) T hT
  have G_law_same := ok_law_same (P := P) (w := w) (base := base) T 1
  refine T.F_law_is_refused.ok sc_law_is_refused (fun vs H Q E h => ?_) (fun cdv A outer s H vs Q E hr h => ?_)
  · obtain ⟨_, _, _, _, _, _, _, _, rfl, _⟩ := h
    rfl
  · obtain ⟨p, c, t, an, al, n, rows, links, rfl, hp, ⟨r1, r2, r3⟩, hR, hTb, hlk, q⟩ := h
    refine ⟨_, (pss_cons (ps_asg (pv 1) (pg_tupH (n := 3) (by rfl) (pgs_cons (pg_name (i := 2) sc_law_is_refused.nd rfl (.inl rfl)) (pgs_cons (pg_name (i := 3) sc_law_is_refused.nd rfl (.inl rfl)) (pgs_cons (pg_name (i := 4) sc_law_is_refused.nd rfl (.inl rfl)) pgs_nil)))))
      (pss_cons (ps_set (i := 5) sc_law_is_refused.nd rfl (.inl rfl) (pe_call G_law_take (hr.mono (by first | decide | exact Nat.le_refl _ | omega)) (by rfl) T.g_law_take T.F_law_take.kp T.b_law_take .nil pass0 (pa_cons (pv 0) (pa_cons pe_int pa_nil))))
      (pss_cons (ps_if (pt_cmpR op_eq (pv 5) pe_int (nomark _))
      (pss_cons (ps_set (i := 6) sc_law_is_refused.nd rfl (.inl rfl) (pe_ix ixHT (pe_tup (pa_cons (pe_un un_neg pe_int) (pa_cons pe_int (pa_cons pe_int pa_nil)))) (pe_call G_law_take (hr.mono (by first | decide | exact Nat.le_refl _ | omega)) (by rfl) T.g_law_take T.F_law_take.kp T.b_law_take .nil pass0 (pa_cons (pv 0) (pa_cons pe_int pa_nil))) (fun _ _ => rfl)))
      (pss_one (ps_ret (pe_call G_law_same (hr.mono (by first | decide | exact Nat.le_refl _ | omega)) (by rfl) T.g_law_same T.F_law_same.kp T.b_law_same .nil pass0 (pa_cons (pe_call G_law_told (hr.mono (by first | decide | exact Nat.le_refl _ | omega)) (by rfl) T.g_law_told T.F_law_told.kp T.b_law_told .nil pass0 (pa_cons (pv 6) (pa_cons (pe_lst (pa_cons (pe_lst (pa_cons pe_str pa_nil)) pa_nil)) (pa_cons (pe_lst (pa_cons pe_str pa_nil)) pa_nil)))) (pa_cons (pe_tup (pa_cons pe_str (pa_cons pe_non (pa_cons pe_str pa_nil)))) pa_nil))))))
      pss_nil)
      (pss_cons (ps_if (pt_cmpR op_eq (pv 5) pe_int (nomark _))
      (pss_cons (ps_set (i := 6) sc_law_is_refused.nd rfl (.inl rfl) (pe_ix ixHT (pe_tup (pa_cons (pe_lst pa_nil) (pa_cons (pe_op op_rep (pe_lst (pa_cons (pe_lst pa_nil) pa_nil)) pe_int) pa_nil))) (pe_call G_law_take (hr.mono (by first | decide | exact Nat.le_refl _ | omega)) (by rfl) T.g_law_take T.F_law_take.kp T.b_law_take .nil pass0 (pa_cons (pv 0) (pa_cons pe_int pa_nil))) (fun _ _ => rfl)))
      (pss_one (ps_ret (pe_call G_law_same (hr.mono (by first | decide | exact Nat.le_refl _ | omega)) (by rfl) T.g_law_same T.F_law_same.kp T.b_law_same .nil pass0 (pa_cons (pe_call G_law_told (hr.mono (by first | decide | exact Nat.le_refl _ | omega)) (by rfl) T.g_law_told T.F_law_told.kp T.b_law_told .nil pass0 (pa_cons (pv 2) (pa_cons (pv 6) (pa_cons (pe_op op_rep (pe_lst (pa_cons pe_str pa_nil)) pe_int) pa_nil)))) (pa_cons (pe_tup (pa_cons pe_str (pa_cons pe_non (pa_cons pe_str pa_nil)))) pa_nil))))))
      pss_nil)
      (pss_cons (ps_set (i := 7) sc_law_is_refused.nd rfl (.inl rfl) (pe_call G_law_take (hr.mono (by first | decide | exact Nat.le_refl _ | omega)) (by rfl) T.g_law_take T.F_law_take.kp T.b_law_take .nil pass0 (pa_cons (pv 0) (pa_cons (pe_callB callLen (by rfl) T.z_len PySem.boot_len (pa_cons (pv 3) pa_nil)) pa_nil))))
      (pss_cons (ps_if (pt_cmpR op_eq (pv 5) pe_int (nomark _))
      (pss_cons (ps_set (i := 8) sc_law_is_refused.nd rfl (.inl rfl) (pe_ix ixHT (pe_tup (pa_cons pe_str (pa_cons pe_str (pa_cons pe_str (pa_cons pe_str (pa_cons pe_str (pa_cons pe_str (pa_cons pe_str (pa_cons pe_str pa_nil))))))))) (pe_call G_law_take (hr.mono (by first | decide | exact Nat.le_refl _ | omega)) (by rfl) T.g_law_take T.F_law_take.kp T.b_law_take .nil pass0 (pa_cons (pv 0) (pa_cons pe_int pa_nil))) (fun _ _ => rfl)))
      (pss_cons (ps_set (i := 6) sc_law_is_refused.nd rfl (.inl rfl) (pe_op op_cat (pe_op op_cat (pe_slice sl_list (pv 3) po_none (po_some (pv 7))) (pe_lst (pa_cons (pe_slice sl_list (pe_op op_cat (pe_ix ixH (pv 3) (pv 7) (fun _ _ => rfl)) (pe_lst (pa_cons (pv 8) pa_nil))) (po_some (pe_un un_neg pe_int)) po_none) pa_nil))) (pe_op op_rep (pe_lst (pa_cons (pe_op op_rep (pe_lst (pa_cons pe_str pa_nil)) pe_int) pa_nil)) (pe_callB callLen (by rfl) T.z_len PySem.boot_len (pa_cons (pe_slice sl_list (pv 3) (po_some (pe_op op_add (pv 7) pe_int)) po_none) pa_nil)))))
      (pss_one (ps_ret (pe_call G_law_same (hr.mono (by first | decide | exact Nat.le_refl _ | omega)) (by rfl) T.g_law_same T.F_law_same.kp T.b_law_same .nil pass0 (pa_cons (pe_call G_law_told (hr.mono (by first | decide | exact Nat.le_refl _ | omega)) (by rfl) T.g_law_told T.F_law_told.kp T.b_law_told .nil pass0 (pa_cons (pv 2) (pa_cons (pv 6) (pa_cons (pe_lst (pa_cons pe_str pa_nil)) pa_nil)))) (pa_cons (pe_tup (pa_cons pe_str (pa_cons (pv 7) (pa_cons pe_str pa_nil)))) pa_nil)))))))
      pss_nil)
      (pss_cons (ps_if (pt_cmpR op_eq (pv 5) pe_int (nomark _))
      (pss_cons (ps_set (i := 6) sc_law_is_refused.nd rfl (.inl rfl) (pe_op op_cat (pe_op op_cat (pe_slice sl_list (pv 3) po_none (po_some (pv 7))) (pe_lst (pa_cons (pe_op op_rep (pe_lst (pa_cons pe_str pa_nil)) pe_int) pa_nil))) (pe_op op_rep (pe_lst (pa_cons (pe_lst (pa_cons pe_str pa_nil)) pa_nil)) (pe_callB callLen (by rfl) T.z_len PySem.boot_len (pa_cons (pe_slice sl_list (pv 3) (po_some (pe_op op_add (pv 7) pe_int)) po_none) pa_nil)))))
      (pss_one (ps_ret (pe_call G_law_same (hr.mono (by first | decide | exact Nat.le_refl _ | omega)) (by rfl) T.g_law_same T.F_law_same.kp T.b_law_same .nil pass0 (pa_cons (pe_call G_law_told (hr.mono (by first | decide | exact Nat.le_refl _ | omega)) (by rfl) T.g_law_told T.F_law_told.kp T.b_law_told .nil pass0 (pa_cons (pv 2) (pa_cons (pv 6) (pa_cons (pe_lst (pa_cons pe_str pa_nil)) pa_nil)))) (pa_cons (pe_tup (pa_cons pe_str (pa_cons (pv 7) (pa_cons pe_str pa_nil)))) pa_nil))))))
      pss_nil)
      (pss_cons (ps_if (pt_cmpR op_eq (pv 5) pe_int (nomark _))
      (pss_one (ps_ret (pe_call G_law_same (hr.mono (by first | decide | exact Nat.le_refl _ | omega)) (by rfl) T.g_law_same T.F_law_same.kp T.b_law_same .nil pass0 (pa_cons (pe_call G_law_told (hr.mono (by first | decide | exact Nat.le_refl _ | omega)) (by rfl) T.g_law_told T.F_law_told.kp T.b_law_told .nil pass0 (pa_cons (pv 2) (pa_cons (pv 3) (pa_cons (pe_op op_rep (pe_lst (pa_cons pe_str pa_nil)) pe_int) pa_nil)))) (pa_cons (pe_tup (pa_cons pe_str (pa_cons pe_non (pa_cons pe_str pa_nil)))) pa_nil)))))
      pss_nil)
      (pss_cons (ps_set (i := 9) sc_law_is_refused.nd rfl (.inl rfl) (pe_call G_law_take (hr.mono (by first | decide | exact Nat.le_refl _ | omega)) (by rfl) T.g_law_take T.F_law_take.kp T.b_law_take .nil pass0 (pa_cons (pv 0) (pa_cons (pe_op op_add (pe_callB callLen (by rfl) T.z_len PySem.boot_len (pa_cons (pv 4) pa_nil)) pe_int) pa_nil))))
      (pss_cons (ps_set (i := 8) sc_law_is_refused.nd rfl (.inl rfl) (pe_ix ixHT (pe_tup (pa_cons pe_str (pa_cons pe_str (pa_cons pe_str (pa_cons pe_str (pa_cons pe_str (pa_cons pe_str (pa_cons pe_str (pa_cons pe_str pa_nil))))))))) (pe_call G_law_take (hr.mono (by first | decide | exact Nat.le_refl _ | omega)) (by rfl) T.g_law_take T.F_law_take.kp T.b_law_take .nil pass0 (pa_cons (pv 0) (pa_cons pe_int pa_nil))) (fun _ _ => rfl)))
      (pss_cons (ps_set (i := 6) sc_law_is_refused.nd rfl (.inl rfl) (pe_slice sl_list (pe_op op_cat (pe_op op_cat (pe_slice sl_list (pv 4) po_none (po_some (pv 9))) (pe_lst (pa_cons (pv 8) (pa_cons pe_str pa_nil)))) (pe_slice sl_list (pv 4) (po_some (pv 9)) po_none)) po_none (po_some pe_int)))
      (pss_cons (ps_set (i := 10) sc_law_is_refused.nd rfl (.inl rfl) (pe_ifExp (pt_cmpR op_eq (pv 9) pe_int (nomark _)) pe_non (pe_tup (pa_cons pe_str (pa_cons (pv 9) (pa_cons pe_str pa_nil))))))
      (pss_one (ps_ret (pe_call G_law_same (hr.mono (by first | decide | exact Nat.le_refl _ | omega)) (by rfl) T.g_law_same T.F_law_same.kp T.b_law_same .nil pass0 (pa_cons (pe_call G_law_told (hr.mono (by first | decide | exact Nat.le_refl _ | omega)) (by rfl) T.g_law_told T.F_law_told.kp T.b_law_told .nil pass0 (pa_cons (pv 2) (pa_cons (pv 3) (pa_cons (pv 6) pa_nil)))) (pa_cons (pv 10) pa_nil))))))))))))))))), ?_⟩
    simp only [tSeq, tAsg, tRet, tRetN, tDrop, tIfS, tNext, tNever, tOp, tUn, tVar, tC, rI0, rI, rU, tTest, tIf, tB, tAnd, tOr, tNot, tAndV, tOrV, tNotV, gName, gSub, gTupH, gCons, gNil, tYes, tCons, tNil, tLst, tTup, tCB, tCall, tMeth, tMake, tFld, sFld, tFor_c, tLc_c, iRng1, iList, iTup, iStr, iSeqB, iEnumB, tM1, tSl, tPart, tNoPart, rSlS, rIxS, tBM, rAppend, tIf, rEq, rNe, scal, hIx, hIxT, hIxB, hSet, hInt, hIntB, hLen, hLenT, hLenB, L2.start, wipe, List.map_cons, List.map_nil, List.set_cons_zero, List.set_cons_succ, List.set_nil, List.length_cons, List.length_nil, List.length_map, List.cons_append, List.nil_append, List.append_nil, List.replicate, List.getElem?_cons_zero, List.getElem?_cons_succ, Option.some.injEq, V.int.injEq, V.bl.injEq, V.ref.injEq, V.str.injEq, List.cons.injEq, exists_eq_left', exists_eq_left, exists_and_left, and_assoc, upd_same, upd_upd, HO.lst.injEq, HO.tup.injEq, atI_0, atI_1, atI_2, atI_3, set_1, set_2, set_3, CDiv, CPow, CMul, List.length_set, Int.reduceToNat, Int.reduceLE, Int.reduceLT, Int.reducePow, Int.reduceNeg, Nat.reduceAdd, Nat.reduceLT, Nat.reduceLeDiff, Nat.reducePow, Nat.zero_add, or_true, true_or, gt_iff_lt, ge_iff_le, and_true, true_and, decide_eq_true_eq, if_true, Bool.false_eq_true, if_false]
    refine ⟨_, r1, rfl, _, _, rfl, _, _, rfl, _, _, rfl, rfl, take_pool hp (by decide) (by decide) fun kind H1 k0 k1 o1 _ p1 => ?_⟩
    have L1 := r2.off hp o1
    have M1 : H1 al = some (.lst (links.map V.str)) := o1 _ _ (hp.ne_str r3) r3
    have T1 := tab_off hTb hp o1
    refine ⟨rfl, ite2 (fun e => ?_) (fun e => ?_)⟩
    · refine ⟨Nat.le_of_ble_eq_true rfl, fun u hu => take_pool (p1.new hu) (by decide) (by decide) fun r H2 r0 r1' o2 _ p2 => ?_⟩
      have T2 := tab_off (tabG_new T1 hu) (p1.new hu) o2
      obtain ⟨w, hw, hwb⟩ : ∃ w : Int, ([V.int (-1), V.int 7, V.int 100] : List V)[r.toNat]? = some (V.int w) ∧ (w < 0 ∨ 6 < w) := by
        have hr3 : r.toNat < 3 := by omega
        match r.toNat, hr3 with
        | 0, _ => exact ⟨-1, rfl, by omega⟩
        | 1, _ => exact ⟨7, rfl, by omega⟩
        | 2, _ => exact ⟨100, rfl, by omega⟩
      refine ⟨_, _, rfl, o2 _ _ (p1.ne_p hu) upd_same, _, by rw [← Int.toNat_of_nonneg r0]; exact atI_nat hw, Nat.le_of_ble_eq_true rfl, fun d1 h1 => ⟨Nat.le_of_ble_eq_true rfl, fun d2 h2 => ⟨Nat.le_of_ble_eq_true rfl, fun d3 h3 => ?_⟩⟩⟩
      have n12 : d1 ≠ d2 := fun z => by rw [← z, upd_same] at h2; cases h2
      have n13 : d1 ≠ d3 := fun z => by rw [← z, upd_ne n12, upd_same] at h3; cases h3
      have n23 : d2 ≠ d3 := fun z => by rw [← z, upd_same] at h3; cases h3
      refine told_fin (rows := [["!"]]) (links := ["AA"]) (.vars hwb) (argL (as := [d1]) ?_ rfl fun i r t e1 e2 => ?_) (.inl upd_same) (fun x hx => by rw [List.mem_singleton.mp hx]; decide +kernel) (tabG_new (tabG_new (tabG_new T2 h1) h2) h3) q
      · rw [upd_ne n23, upd_same]
        rfl
      · match i with
        | 0 =>
          cases e1
          cases e2
          rw [upd_ne n13, upd_ne n12, upd_same]
          rfl
        | i + 1 => simp at e1
    refine ⟨rfl, ite2 (fun e2 => ?_) (fun e2 => ?_)⟩
    · refine ⟨Nat.zero_le _, ?_⟩
      (intro d1 n1; generalize hG : upd _ d1 _ = Ha; have sa := gen_same n1 hG; have ea := gen_at hG; clear hG)
      refine ⟨Nat.zero_le _, ?_⟩
      (intro d2 n2; generalize hG : upd _ d2 _ = Hb; have sb := gen_same n2 hG; have eb := gen_at hG; clear hG)
      refine ⟨Nat.le_of_ble_eq_true rfl, ?_⟩
      (intro d3 n3; generalize hG : upd _ d3 _ = Hc; have sc := gen_same n3 hG; have ec := gen_at hG; clear hG)
      refine rep_of ec (by decide) (by decide) ?_
      (intro d4 n4; generalize hG : upd _ d4 _ = Hd; have sd := gen_same n4 hG; have ed := gen_at hG; clear hG)
      refine ⟨Nat.le_of_ble_eq_true rfl, ?_⟩
      (intro d5 n5; generalize hG : upd _ d5 _ = He; have se := gen_same n5 hG; have ee := gen_at hG; clear hG)
      have pe := ((((p1.same sa).same sb).same sc).same sd).same se
      refine take_pool pe (by decide) (by decide) fun r Hf r0 r1' o2 _ p2 => ?_
      have Te := tab_same (tab_same (tab_same (tab_same (tab_same T1 sa) sb) sc) sd) se
      have Tf := tab_off Te pe o2
      have e1f : Hf d1 = some (.lst []) := o2 _ _ (p1.ne_p n1) (se _ _ (sd _ _ (sc _ _ (sb _ _ ea))))
      have e2f : Hf d2 = some (.lst []) := o2 _ _ ((p1.same sa).ne_p n2) (se _ _ (sd _ _ (sc _ _ eb)))
      have e4f : Hf d4 = some (.lst (List.replicate 7 (V.ref d2))) := o2 _ _ ((((p1.same sa).same sb).same sc).ne_p n4) (se _ _ ed)
      refine ⟨_, _, rfl, o2 _ _ (((((p1.same sa).same sb).same sc).same sd).ne_p n5) ee, ?_⟩
      have hr2 : r.toNat < 2 := by omega
      have fin : ∀ (pn : Addr) (rows' : List (List Str)), ArgAt Hf pn rows' → (rows'.length < 1 ∨ 6 < rows'.length) → ∀ d6, Hf d6 = none → rRep (V.ref d6) (V.int 17) (upd Hf d6 (HO.lst [V.str "AA"])) fun x H1 => spTold a.tG_Network_init [V.int n, .ref pn, x] H1 (fun x H1 => 3 ≤ sizeLine ∧ ∀ p, H1 p = none → spSame 1 [x, .ref p] (upd H1 p (.tup [V.str "nodes", V.non, V.str "count"])) Q E0) E0 := by
        intro pn rows' hA hb
        (intro d6 n6; generalize hG : upd _ d6 _ = Hg; have sg := gen_same n6 hG; have eg := gen_at hG; clear hG)
        refine rep_of eg (by decide) (by decide) ?_
        (intro d7 n7; generalize hG : upd _ d7 _ = Hh; have sh := gen_same n7 hG; have eh := gen_at hG; clear hG)
        exact told_fin (rows := rows') (links := List.replicate 17 "AA") (.nodes hR.h0 hb) (hA.same (Same.tr sg sh)) (.inl (by rw [eh, List.map_replicate]; rfl)) (fun x hx => by rw [(List.mem_replicate.mp hx).2]; decide +kernel) (tab_same Tf (Same.tr sg sh)) q
      match h : r.toNat, hr2 with
      | 0, _ =>
        refine ⟨_, by rw [← Int.toNat_of_nonneg r0, h]; exact atI_nat (j := 0) rfl, Nat.le_of_ble_eq_true rfl, ?_⟩
        exact fin d1 [] (argL (as := []) e1f rfl fun i r t e => by cases e) (.inl (by decide))
      | 1, _ =>
        refine ⟨_, by rw [← Int.toNat_of_nonneg r0, h]; exact atI_nat (j := 1) rfl, Nat.le_of_ble_eq_true rfl, ?_⟩
        exact fin d4 (List.replicate 7 []) ((RR.rep (r := []) e2f 7).arg (by rw [e4f, List.map_replicate])) (.inr (by rw [List.length_replicate]; omega))
    · obtain ⟨ls, l1, l2, l3, l4⟩ := L1.ex
      have R1 := RR.of l2 l4
      have el : ((ls.map V.ref).length : Int) = (rows.length : Int) := by rw [List.length_map, l2]
      have b1 := hR.h1
      refine ⟨an, rfl, _, l1, ?_⟩
      rw [el]
      refine take_pool p1 (by omega) (by omega) fun at_ H2 a0 a1 o2 _ p2 => ?_
      have T2 := tab_off T1 p1 o2
      have R2 := R1.off p1 o2
      have A2 : H2 an = some (.lst (ls.map V.ref)) := o2 _ _ (p1.ne_ref l1) l1
      have M2 : H2 al = some (.lst (links.map V.str)) := o2 _ _ (p1.ne_str M1) M1
      obtain ⟨i, rfl⟩ : ∃ i : Nat, at_ = i := ⟨at_.toNat, by omega⟩
      have hi : i < rows.length := by omega
      have hri : rows[i]? = some rows[i] := List.getElem?_eq_getElem hi
      have hli : ls[i]? = some (ls[i]'(by omega)) := List.getElem?_eq_getElem _
      have hti := R2.at i _ _ hri hli
      have hsm := row_small (hR.h2 _ (List.getElem_mem hi))
      refine ⟨rfl, ite2 (fun e3 => ?_) (fun e3 => ?_)⟩
      · refine ⟨Nat.le_of_ble_eq_true rfl, ?_⟩
        (intro d1 n1; generalize hG : upd _ d1 _ = Ha; have sa := gen_same n1 hG; have ea := gen_at hG; clear hG)
        refine take_pool (p2.same sa) (by decide) (by decide) fun r Hb r0 r1' o3 _ p3 => ?_
        have eb := o3 _ _ (p2.ne_p n1) ea
        have Rb := (R2.same sa).off (p2.same sa) o3
        have Ab := o3 _ _ ((p2.same sa).ne_ref (sa _ _ A2)) (sa _ _ A2)
        have Tb := tab_off (tab_same T2 sa) (p2.same sa) o3
        have hr8 : r.toNat < badV.length := by show r.toNat < 8; omega
        have hx : (badV.map V.str)[r.toNat]? = some (V.str badV[r.toNat]) := by rw [List.getElem?_map, List.getElem?_eq_getElem hr8]; rfl
        have hxb : isMsg n badV[r.toNat] = false := badV_no hR.h0 (List.getElem_mem hr8)
        generalize badV[r.toNat] = x at hx hxb
        refine ⟨_, r, rfl, eb, _, by rw [← Int.toNat_of_nonneg r0]; exact atI_nat hx, i, rfl, sl_of Ab ?_⟩
        (intro d2 n2; generalize hG : upd _ d2 _ = Hc; have sc := gen_same n2 hG; have ec := gen_at hG; clear hG)
        rw [cut_to] at ec
        refine ⟨an, rfl, _, _, rfl, sc _ _ Ab, _, atI_nat (by rw [List.getElem?_map, hli]; rfl), Nat.le_of_ble_eq_true rfl, ?_⟩
        (intro d3 n3; generalize hG : upd _ d3 _ = Hd; have sd := gen_same n3 hG; have ed := gen_at hG; clear hG)
        refine cat_of (sd _ _ (sc _ _ (Rb.at i _ _ hri hli))) ed (by rw [List.length_map, List.length_singleton]; omega) ?_
        (intro d4 n4; generalize hG : upd _ d4 _ = He; have se := gen_same n4 hG; have ee := gen_at hG; clear hG)
        refine sl_of ee ?_
        (intro d5 n5; generalize hG : upd _ d5 _ = Hf; have sf := gen_same n5 hG; have ef := gen_at hG; clear hG)
        rw [cut_last] at ef
        refine ⟨Nat.le_of_ble_eq_true rfl, ?_⟩
        (intro d6 n6; generalize hG : upd _ d6 _ = Hg; have sg := gen_same n6 hG; have eg := gen_at hG; clear hG)
        refine cat_of (sg _ _ (sf _ _ (se _ _ (sd _ _ ec)))) eg (by rw [List.length_take, List.length_map, List.length_singleton]; omega) ?_
        (intro d7 n7; generalize hG : upd _ d7 _ = Hh; have sh := gen_same n7 hG; have eh := gen_at hG; clear hG)
        refine ⟨Nat.le_of_ble_eq_true rfl, ?_⟩
        (intro d8 n8; generalize hG : upd _ d8 _ = Hi; have si := gen_same n8 hG; have e8 := gen_at hG; clear hG)
        refine rep_of e8 (by decide) (by decide) ?_
        (intro d9 n9; generalize hG : upd _ d9 _ = Hj; have sj := gen_same n9 hG; have e9 := gen_at hG; clear hG)
        refine ⟨Nat.le_of_ble_eq_true rfl, ?_⟩
        (intro d10 n10; generalize hG : upd _ d10 _ = Hk; have sk := gen_same n10 hG; have e10 := gen_at hG; clear hG)
        have s2k : Same Hb Hk := Same.tr (Same.tr (Same.tr (Same.tr (Same.tr (Same.tr (Same.tr (Same.tr sc sd) se) sf) sg) sh) si) sj) sk
        refine ⟨_, rfl, sl_of (s2k _ _ Ab) ?_⟩
        (intro d11 n11; generalize hG : upd _ d11 _ = Hl; have sl := gen_same n11 hG; have e11 := gen_at hG; clear hG)
        rw [show ((i : Int) + 1) = ((i + 1 : Nat) : Int) by omega, cut_from] at e11
        refine ⟨d11, rfl, _, e11, rep_of (sl _ _ e10) (by omega) (by rw [List.length_drop, List.length_map]; omega) ?_⟩
        (intro d12 n12; generalize hG : upd _ d12 _ = Hm; have sm := gen_same n12 hG; have e12 := gen_at hG; clear hG)
        refine cat_of (sm _ _ (sl _ _ (sk _ _ (sj _ _ (si _ _ eh))))) e12 (by rw [List.length_replicate, List.length_append, List.length_take, List.length_drop, List.length_map, List.length_singleton]; omega) ?_
        (intro d13 n13; generalize hG : upd _ d13 _ = Hn; have sn := gen_same n13 hG; have e13 := gen_at hG; clear hG)
        refine ⟨Nat.le_of_ble_eq_true rfl, ?_⟩
        (intro d14 n14; generalize hG : upd _ d14 _ = Ho; have so := gen_same n14 hG; have e14 := gen_at hG; clear hG)
        have s9 : Same Hj Ho := Same.tr (Same.tr (Same.tr (Same.tr sk sl) sm) sn) so
        have s5 : Same Hf Ho := Same.tr (Same.tr (Same.tr (Same.tr sg sh) si) sj) s9
        have sb : Same Hb Ho := Same.tr s2k (Same.tr (Same.tr (Same.tr sl sm) sn) so)
        have e5' : Ho d5 = some (.lst (((rows[i] ++ [x]).drop ((rows[i] ++ [x]).length - 4)).map V.str)) := by
          rw [s5 _ _ ef, List.map_drop, List.map_append, List.length_append, List.length_append, List.length_map]
          rfl
        have hk : (((ls.map V.ref).drop (i + 1)).length : Int).toNat = rows.length - (i + 1) := by
          rw [Int.toNat_natCast, List.length_drop, List.length_map, l2]
        refine told_fin (rows := rows.take i ++ [(rows[i] ++ [x]).drop ((rows[i] ++ [x]).length - 4)] ++ List.replicate (rows.length - (i + 1)) (List.replicate 5 ("!" : Str))) (links := ["AA"]) (.row hR.h0 ?_ (at_mid (Nat.le_of_lt hi)) ?_ (last_bad hxb))
          (RR.arg (RR.app (RR.app ((Rb.same sb).take i) (RR.cons e5' .nil)) (RR.rep (t := d9) ?_ _)) ?_) (.inl e14) (fun y hy => by rw [List.mem_singleton.mp hy]; decide +kernel) (tab_same Tb sb) q
        · rw [List.length_append, List.length_append, List.length_take, List.length_replicate, List.length_singleton]
          omega
        · rw [take_mid (Nat.le_of_lt hi)]
          exact fun y hy => hR.h2 y (List.mem_of_mem_take hy)
        · rw [s9 _ _ e9, List.map_replicate]
          rfl
        · rw [so _ _ e13, hk, List.map_append, List.map_append, List.map_take, List.map_replicate]
          rfl
      · refine ⟨rfl, ite2 (fun e4 => ?_) (fun e4 => ?_)⟩
        · refine ⟨_, rfl, sl_of A2 ?_⟩
          (intro d2 n2; generalize hG : upd _ d2 _ = Hc; have sc := gen_same n2 hG; have ec := gen_at hG; clear hG)
          rw [cut_to] at ec
          refine ⟨Nat.le_of_ble_eq_true rfl, ?_⟩
          (intro d3 n3; generalize hG : upd _ d3 _ = Hd; have sd := gen_same n3 hG; have ed := gen_at hG; clear hG)
          refine rep_of ed (by decide) (by decide) ?_
          (intro d5 n5; generalize hG : upd _ d5 _ = Hf; have sf := gen_same n5 hG; have ef := gen_at hG; clear hG)
          refine ⟨Nat.le_of_ble_eq_true rfl, ?_⟩
          (intro d6 n6; generalize hG : upd _ d6 _ = Hg; have sg := gen_same n6 hG; have eg := gen_at hG; clear hG)
          refine cat_of (sg _ _ (sf _ _ (sd _ _ ec))) eg (by rw [List.length_take, List.length_map, List.length_singleton]; omega) ?_
          (intro d7 n7; generalize hG : upd _ d7 _ = Hh; have sh := gen_same n7 hG; have eh := gen_at hG; clear hG)
          refine ⟨Nat.le_of_ble_eq_true rfl, ?_⟩
          (intro d9 n9; generalize hG : upd _ d9 _ = Hj; have sj := gen_same n9 hG; have e9 := gen_at hG; clear hG)
          refine ⟨Nat.le_of_ble_eq_true rfl, ?_⟩
          (intro d10 n10; generalize hG : upd _ d10 _ = Hk; have sk := gen_same n10 hG; have e10 := gen_at hG; clear hG)
          have s2k : Same H2 Hk := Same.tr (Same.tr (Same.tr (Same.tr (Same.tr (Same.tr sc sd) sf) sg) sh) sj) sk
          refine ⟨_, rfl, sl_of (s2k _ _ A2) ?_⟩
          (intro d11 n11; generalize hG : upd _ d11 _ = Hl; have sl := gen_same n11 hG; have e11 := gen_at hG; clear hG)
          rw [show ((i : Int) + 1) = ((i + 1 : Nat) : Int) by omega, cut_from] at e11
          refine ⟨d11, rfl, _, e11, rep_of (sl _ _ e10) (by omega) (by rw [List.length_drop, List.length_map]; omega) ?_⟩
          (intro d12 n12; generalize hG : upd _ d12 _ = Hm; have sm := gen_same n12 hG; have e12 := gen_at hG; clear hG)
          refine cat_of (sm _ _ (sl _ _ (sk _ _ (sj _ _ eh)))) e12 (by rw [List.length_replicate, List.length_append, List.length_take, List.length_drop, List.length_map, List.length_singleton]; omega) ?_
          (intro d13 n13; generalize hG : upd _ d13 _ = Hn; have sn := gen_same n13 hG; have e13 := gen_at hG; clear hG)
          refine ⟨Nat.le_of_ble_eq_true rfl, ?_⟩
          (intro d14 n14; generalize hG : upd _ d14 _ = Ho; have so := gen_same n14 hG; have e14 := gen_at hG; clear hG)
          have s9 : Same Hj Ho := Same.tr (Same.tr (Same.tr (Same.tr sk sl) sm) sn) so
          have s5 : Same Hf Ho := Same.tr (Same.tr (Same.tr sg sh) sj) s9
          have sb : Same H2 Ho := Same.tr s2k (Same.tr (Same.tr (Same.tr sl sm) sn) so)
          have e5' : Ho d5 = some (.lst ((List.replicate 5 ("!" : Str)).map V.str)) := by
            rw [s5 _ _ ef, List.map_replicate]
            rfl
          have hk : (((ls.map V.ref).drop (i + 1)).length : Int).toNat = rows.length - (i + 1) := by
            rw [Int.toNat_natCast, List.length_drop, List.length_map, l2]
          refine told_fin (rows := rows.take i ++ [List.replicate 5 ("!" : Str)] ++ List.replicate (rows.length - (i + 1)) ([("!" : Str)] : List Str)) (links := ["AA"]) (.row hR.h0 ?_ (at_mid (Nat.le_of_lt hi)) ?_ (by unfold rowBad; rw [if_pos (by rw [List.length_replicate]; omega)]))
            (RR.arg (RR.app (RR.app ((R2.same sb).take i) (RR.cons e5' .nil)) (RR.rep (t := d9) (r := [("!" : Str)]) (s9 _ _ e9) _)) ?_) (.inl e14) (fun y hy => by rw [List.mem_singleton.mp hy]; decide +kernel) (tab_same T2 sb) q
          · rw [List.length_append, List.length_append, List.length_take, List.length_replicate, List.length_singleton]
            omega
          · rw [take_mid (Nat.le_of_lt hi)]
            exact fun y hy => hR.h2 y (List.mem_of_mem_take hy)
          · rw [so _ _ e13, hk, List.map_append, List.map_append, List.map_take, List.map_replicate]
            rfl
        · refine ⟨rfl, ite2 (fun e5 => ?_) (fun e5 => ?_)⟩
          · refine ⟨Nat.le_of_ble_eq_true rfl, ?_⟩
            (intro d6 n6; generalize hG : upd _ d6 _ = Hg; have sg := gen_same n6 hG; have eg := gen_at hG; clear hG)
            refine rep_of eg (by decide) (by decide) ?_
            (intro d7 n7; generalize hG : upd _ d7 _ = Hh; have sh := gen_same n7 hG; have eh := gen_at hG; clear hG)
            exact told_fin (rows := rows) (links := List.replicate 17 "AA") (.links hR.h0 hR.h1 hR.h2 (by rw [List.length_replicate]; omega)) (((R2.same sg).same sh).arg (sh _ _ (sg _ _ A2))) (.inl (by rw [eh, List.map_replicate]; rfl)) (fun x hx => by rw [(List.mem_replicate.mp hx).2]; decide +kernel) (tab_same T2 (Same.tr sg sh)) q
          · refine ⟨al, rfl, _, M2, ?_⟩
            have b16 := hR.h3
            have em : ((links.map V.str).length : Int) = (links.length : Int) := by rw [List.length_map]
            rw [em]
            refine take_pool p2 (by omega) (by omega) fun sp Ha s0 s1 o3 _ p3 => ?_
            have R3 := R2.off p2 o3
            have A3 := o3 _ _ (p2.ne_ref A2) A2
            have M3 := o3 _ _ (p2.ne_str M2) M2
            have T3 := tab_off T2 p2 o3
            obtain ⟨k, rfl⟩ : ∃ k : Nat, sp = k := ⟨sp.toNat, by omega⟩
            have hk : k ≤ links.length := by omega
            refine ⟨Nat.le_of_ble_eq_true rfl, ?_⟩
            (intro d1 n1; generalize hG : upd _ d1 _ = Hb; have sb := gen_same n1 hG; have eb := gen_at hG; clear hG)
            refine take_pool (p3.same sb) (by decide) (by decide) fun r Hc r0 r1' o4 _ p4 => ?_
            have ec := o4 _ _ (p3.ne_p n1) eb
            have R4 := (R3.same sb).off (p3.same sb) o4
            have A4 := o4 _ _ ((p3.same sb).ne_ref (sb _ _ A3)) (sb _ _ A3)
            have M4 := o4 _ _ ((p3.same sb).ne_str (sb _ _ M3)) (sb _ _ M3)
            have T4 := tab_off (tab_same T3 sb) (p3.same sb) o4
            have hr8 : r.toNat < badL.length := by show r.toNat < 8; omega
            have hx : (badL.map V.str)[r.toNat]? = some (V.str badL[r.toNat]) := by rw [List.getElem?_map, List.getElem?_eq_getElem hr8]; rfl
            have hxb : isLnk (rows.length : Int) (lt badL[r.toNat]) = false := badL_no (by omega) (List.getElem_mem hr8)
            have hxl := badL_len _ (List.getElem_mem hr8)
            generalize badL[r.toNat] = x at hx hxb hxl
            refine ⟨_, r, rfl, ec, _, by rw [← Int.toNat_of_nonneg r0]; exact atI_nat hx, _, rfl, sl_of M4 ?_⟩
            (intro d2 n2; generalize hG : upd _ d2 _ = Hd; have sd := gen_same n2 hG; have ed := gen_at hG; clear hG)
            rw [cut_to] at ed
            refine ⟨Nat.le_of_ble_eq_true rfl, ?_⟩
            (intro d3 n3; generalize hG : upd _ d3 _ = He; have se := gen_same n3 hG; have ee := gen_at hG; clear hG)
            refine cat_of (se _ _ ed) ee (by rw [List.length_take, List.length_map, List.length_cons, List.length_singleton]; omega) ?_
            (intro d4 n4; generalize hG : upd _ d4 _ = Hf; have sf := gen_same n4 hG; have ef := gen_at hG; clear hG)
            refine ⟨_, rfl, sl_of (sf _ _ (se _ _ (sd _ _ M4))) ?_⟩
            (intro d5 n5; generalize hG : upd _ d5 _ = Hg; have sg := gen_same n5 hG; have eg := gen_at hG; clear hG)
            rw [cut_from] at eg
            refine cat_of (sg _ _ ef) eg (by rw [List.length_append, List.length_take, List.length_drop, List.length_map, List.length_cons, List.length_singleton]; omega) ?_
            (intro d6 n6; generalize hG : upd _ d6 _ = Hh; have sh := gen_same n6 hG; have eh := gen_at hG; clear hG)
            refine sl_of eh ?_
            (intro d7 n7; generalize hG : upd _ d7 _ = Hi; have si := gen_same n7 hG; have ei := gen_at hG; clear hG)
            rw [show (16 : Int) = ((16 : Nat) : Int) from rfl, cut_to] at ei
            have s9 : Same Hc Hi := Same.tr (Same.tr (Same.tr (Same.tr (Same.tr sd se) sf) sg) sh) si
            have ew : Hi d7 = some (.lst (((links.take k ++ [x] ++ (("!" : Str) :: links.drop k)).take 16).map V.str)) := by
              rw [ei]
              simp only [List.map_take, List.map_append, List.map_drop, List.map_cons, List.map_nil, List.append_assoc, List.cons_append, List.nil_append]
            have hsz : ∀ y ∈ (links.take k ++ [x] ++ (("!" : Str) :: links.drop k)).take 16, y.length ≤ 1000 := fun y hy => by
              rcases List.mem_append.mp (List.mem_of_mem_take hy) with z | z
              · rcases List.mem_append.mp z with z | z
                · have := hlk y (List.mem_of_mem_take z)
                  omega
                · rw [List.mem_singleton.mp z]
                  omega
              · rcases List.mem_cons.mp z with z | z
                · rw [z]
                  decide +kernel
                · have := hlk y (List.mem_of_mem_drop z)
                  omega
            refine ⟨rfl, ite2 (fun e6 => ?_) (fun e6 => ?_)⟩
            · have k16 : k = 16 := by
                have := V.int.inj e6
                omega
              have el16 : links.length = 16 := by omega
              have ewl : (links.take k ++ [x] ++ (("!" : Str) :: links.drop k)).take 16 = links := by
                rw [← k16, take_mid hk, k16, List.take_of_length_le (by omega)]
              rw [ewl] at ew hsz
              exact told_ok hR ((R4.same s9).arg (s9 _ _ A4)) (.inl ew) hsz (tab_same T4 s9) q
            · have k15 : k < 16 := by
                have : (k : Int) ≠ 16 := fun z => e6 (by rw [z])
                omega
              refine ⟨Nat.le_of_ble_eq_true rfl, ?_⟩
              (intro d8 n8; generalize hG : upd _ d8 _ = Hj; have sj := gen_same n8 hG; have ej := gen_at hG; clear hG)
              have s10 := Same.tr s9 sj
              refine told_fin2 (rows := rows) (links := (links.take k ++ [x] ++ (("!" : Str) :: links.drop k)).take 16) (.link hR.h0 hR.h1 hR.h2 (by rw [List.length_take]; omega) (i := k) (x := x) ?_ ?_ hxb) ((R4.same s10).arg (s10 _ _ A4)) (.inl (sj _ _ ew)) hsz (tab_same T4 s10) ej q
              · rw [List.getElem?_take, if_pos k15]
                exact at_mid hk
              · rw [List.take_take, Nat.min_eq_left (by omega), take_mid hk]
                exact fun y hy => hR.h4 y (List.mem_of_mem_take hy)
end
end AK
set_option Elab.async false
set_option linter.all false
set_option maxRecDepth 100000
set_option maxHeartbeats 4000000
namespace AK
open PySem PySem.Spec PyProof.Rows L2
theorem Pool.at {G H : Hp} {p : Addr} (h : Pool G H p) : ∃ c, PoolAt H p c := by
  obtain ⟨c, cells, i, d, x, e1, e2, e3⟩ := h.ex
  exact ⟨c, ne_of_none e2 h.out, cells, i, d, x, e1, h.le _ _ e2, e3⟩
theorem NetAt.off1 {C : Addr} {H H' : Hp} {nw p c : Addr} {n : Int} {rows : List (List Str)} {links : List Str} (h : NetAt C H nw n rows links) (k : PoolAt H p c) (s : Off1 p H H') : NetAt C H' nw n rows links := by
  obtain ⟨dx, tn, tl, as, fs, h1, h2, h3, h4, h5, h6, h7, h8, h9, h10, h11, h12⟩ := h.ex
  obtain ⟨_, _, _, _, e1, _⟩ := k.ex
  have ni : ∀ {b : Addr} {C d : Addr} {f : List (Str × V)}, H b = some (.ins C d f) → b ≠ p := fun e z => by
    rw [z, e1] at e
    cases e
  have nt : ∀ {b : Addr} {xs : List V}, H b = some (.tup xs) → b ≠ p := fun e z => by
    rw [z, e1] at e
    cases e
  exact ⟨dx, tn, tl, as, fs, s _ _ (ni h1) h1, h2, h3, h4, h5, h6, h7, h8, s _ _ (nt h9) h9, s _ _ (nt h10) h10, h11, fun i r t x y => s _ _ (nt (h12 i r t x y)) (h12 i r t x y)⟩
/-- a list is written: the network stands -/
theorem NetAt.wr {C : Addr} {H : Hp} {nw q : Addr} {o : HO} {xs : List V} {n : Int} {rows : List (List Str)} {links : List Str} (h : NetAt C H nw n rows links) (hq : H q = some (.lst xs)) : NetAt C (upd H q o) nw n rows links := by
  obtain ⟨dx, tn, tl, as, fs, h1, h2, h3, h4, h5, h6, h7, h8, h9, h10, h11, h12⟩ := h.ex
  have ni : ∀ {b : Addr} {C d : Addr} {f : List (Str × V)}, H b = some (.ins C d f) → b ≠ q := fun e z => by
    rw [z, hq] at e
    cases e
  have nt : ∀ {b : Addr} {xs : List V}, H b = some (.tup xs) → b ≠ q := fun e z => by
    rw [z, hq] at e
    cases e
  refine ⟨dx, tn, tl, as, fs, by rw [upd_ne (ni h1)]; exact h1, h2, h3, h4, h5, h6, h7, h8, by rw [upd_ne (nt h9)]; exact h9, by rw [upd_ne (nt h10)]; exact h10, h11, fun i r t x y => ?_⟩
  rw [upd_ne (nt (h12 i r t x y))]
  exact h12 i r t x y
theorem RowsAt.off1 {H H' : Hp} {t an al p c : Addr} {n : Int} {rows : List (List Str)} {links : List Str} (h : RowsAt H t an al n rows links) (k : PoolAt H p c) (s : Off1 p H H') : RowsAt H' t an al n rows links := by
  obtain ⟨h1, h2, h3⟩ := h
  obtain ⟨_, _, _, _, e1, _⟩ := k.ex
  refine ⟨s _ _ (fun z => ?_) h1, h2.off k s, s _ _ (k.ne_str h3) h3⟩
  rw [z, e1] at h1
  cases h1
theorem PoolAt.ne_tup {H : Hp} {p c t : Addr} {xs : List V} (h : PoolAt H p c) (e : H t = some (.tup xs)) : t ≠ p := fun z => by
  obtain ⟨_, _, _, _, e1, _⟩ := h.ex
  rw [z, e1] at e
  cases e
theorem PoolAt.ne_row {H : Hp} {p c t : Addr} {r : List Str} (h : PoolAt H p c) (e : RowAt H t (r.map V.str)) : t ≠ p := e.elim h.ne_str h.ne_tup
theorem row_off {H H' : Hp} {p t : Addr} {xs : List V} (e : RowAt H t xs) (h : t ≠ p) (s : Off1 p H H') : RowAt H' t xs := e.imp (s _ _ h) (s _ _ h)
/-- what stands from the network's making to the end -/
structure StL (C tb p c t an al nw : Addr) (n : Int) (rows : List (List Str)) (links : List Str) (H : Hp) : Prop where
  net : NetAt C H nw n rows links
  row : RowsAt H t an al n rows links
  pool : PoolAt H p c
  tab : GxR.TabG H tb
theorem RowsAt.same {H H' : Hp} {t an al : Addr} {n : Int} {rows : List (List Str)} {links : List Str} (h : RowsAt H t an al n rows links) (s : Same H H') : RowsAt H' t an al n rows links := by
  obtain ⟨h1, h2, h3⟩ := h
  obtain ⟨as, a1, a2, a3, a4⟩ := h2.ex
  exact ⟨s _ _ h1, ⟨as, s _ _ a1, a2, a3, fun i r t x y => s _ _ (a4 i r t x y)⟩, s _ _ h3⟩
theorem StL.same {C tb p c t an al nw : Addr} {n : Int} {rows : List (List Str)} {links : List Str} {H H' : Hp} (h : StL C tb p c t an al nw n rows links H) (s : Same H H') : StL C tb p c t an al nw n rows links H' := ⟨h.net.same s, h.row.same s, h.pool.same s, tab_same h.tab s⟩
theorem StL.off {C tb p c t an al nw : Addr} {n : Int} {rows : List (List Str)} {links : List Str} {H H' : Hp} (h : StL C tb p c t an al nw n rows links H) (s : Off1 p H H') (k : PoolAt H' p c) : StL C tb p c t an al nw n rows links H' := ⟨h.net.off1 h.pool s, h.row.off1 h.pool s, k, tab_off h.tab h.pool s⟩
theorem RowsAt.gk {H H' : Hp} {t an al p c tb : Addr} {n : Int} {rows : List (List Str)} {links : List Str} (h : RowsAt H t an al n rows links) (k : PoolAt H p c) (T : GxR.TabG H tb) (s : ∀ b o, b ≠ p → b ≠ tb → H b = some o → H' b = some o) : RowsAt H' t an al n rows links := by
  obtain ⟨h1, h2, h3⟩ := h
  obtain ⟨as, a1, a2, a3, a4⟩ := h2.ex
  obtain ⟨ps, e, _⟩ := T
  have nl : ∀ {b : Addr} {xs : List V}, H b = some (.lst xs) → b ≠ tb := fun x z => by
    rw [z, e] at x
    cases x
  have nt : t ≠ tb := fun z => by
    rw [z, e] at h1
    cases h1
  exact ⟨s _ _ (k.ne_tup h1) nt h1, ⟨as, s _ _ (k.ne_ref a1) (nl a1) a1, a2, a3, fun i r u x y => s _ _ (k.ne_str (a4 i r u x y)) (nl (a4 i r u x y)) (a4 i r u x y)⟩, s _ _ (k.ne_str h3) (nl h3) h3⟩
theorem flat4 : ∀ rows : List (List Str), (∀ r ∈ rows, r.length ≤ 4) → rows.flatten.length ≤ 4 * rows.length
  | [], _ => Nat.le_refl _
  | r :: rows, h => by
    have h1 := h r (List.mem_cons_self ..)
    have h2 := flat4 rows fun x hx => h x (List.mem_cons_of_mem _ hx)
    rw [List.flatten_cons, List.length_append, List.length_cons]
    omega
def SN7 : List Nat := lt ("ABCDEFG" : Str)
def spLaw (K : PySem.W.Frag) (P : Addr) : Sp := fun vs H Q _ => ∃ (a : Addr) (ns : List Int), vs = [.ref a] ∧ SqL K H a (ns.map V.int) ∧ ns.length ≤ 63 ∧ (∀ z ∈ ns, Builtin.Int.intBits z ≤ 1048576) ∧ H P = some (.tbl #[]) ∧ ∀ H', Q (.bl true) H'
section
variable {P : Program} {w : World} {K : PySem.W.Frag} {mg : Str → Option Value} {base : Heap} {a : Ads}
theorem ok_law (T : Txt K mg a) (hT : GxR.TabB base mg a.cG_Network_init a.tG_Network_init) : FnOk P w K mg base CX0 8 a.a_law a.d_law ["script"] (spLaw K a.tG_Network_init) := by
  have G_law_pool := ok_law_pool (P := P) (w := w) (base := base) (mg := mg) T.F_law_pool
  have G_law_take := ok_law_take (P := P) (w := w) (base := base) T
  have G_law_rows := ok_law_rows (P := P) (w := w) (base := base) T
  have G_law_text := ok_law_text (P := P) (w := w) (base := base) T
  have G_law_same := ok_law_same (P := P) (w := w) (base := base) T 3
  have G_law_is_shown := ok_law_is_shown (P := P) (w := w) (base := base) T
  have G_law_is_message := ok_law_is_message (P := P) (w := w) (base := base) T
  have G_law_is_link := ok_law_is_link (P := P) (w := w) (base := base) T
  have G_law_number := ok_law_number (P := P) (w := w) (base := base) T
  have G_law_is_refused := ok_law_is_refused (P := P) (w := w) (base := base) T hT
  have G_is_message := ok_is_message (P := P) (w := w) (base := base) T
  have G_is_link := ok_is_link (P := P) (w := w) (base := base) T
  have G_Network_init := ok_Network (P := P) (w := w) (base := base) T hT
  have G_Network_node_letters := ok_node_letters (P := P) (w := w) (base := base) T
  have G_Network_variable_letters := ok_variable_letters (P := P) (w := w) (base := base) T
  have G_Network_messages := ok_messages (P := P) (w := w) (base := base) T
  have G_Network_all_messages := ok_all_messages (P := P) (w := w) (base := base) T
  refine T.F_law.ok sc_law (fun vs H Q E h => ?_) (fun cdv A outer s H vs Q E hr h => ?_)
  · obtain ⟨_, _, rfl, _⟩ := h
    rfl
  · obtain ⟨s0, ns, rfl, hS, hl, _, hTb, q⟩ := h
    refine ⟨_, (pss_cons (ps_set (i := 1) sc_law.nd rfl (.inr rfl) (pe_call G_law_pool (hr.mono (by first | decide | exact Nat.le_refl _ | omega)) (by rfl) T.g_law_pool T.F_law_pool.kp T.b_law_pool .nil pass0 (pa_cons (pv 0) pa_nil)))
      (pss_cons (ps_set (i := 2) sc_law.nd rfl (.inl rfl) (pe_call G_law_rows (hr.mono (by first | decide | exact Nat.le_refl _ | omega)) (by rfl) T.g_law_rows T.F_law_rows.kp T.b_law_rows .nil pass0 (pa_cons (pv 1) (pa_cons pe_int (pa_cons pe_int pa_nil)))))
      (pss_cons (ps_asg (pv 2) (pg_tupH (n := 3) (by rfl) (pgs_cons (pg_name (i := 3) sc_law.nd rfl (.inl rfl)) (pgs_cons (pg_name (i := 4) sc_law.nd rfl (.inl rfl)) (pgs_cons (pg_name (i := 5) sc_law.nd rfl (.inl rfl)) pgs_nil)))))
      (pss_cons (ps_set (i := 6) sc_law.nd rfl (.inl rfl) (pe_lst (pa_cons (pe_lc (own := [("row", 9)]) (g := gName 9) (tt := tYes) rfl sc_law.nd (pi_list (pv 4)) (blkOk_by (own := [("row", 9)]) (N := sc_law_N) (sc := defScope s_law) (by decide +kernel)) (fun _ _ _ _ _ => (pg_name (i := 9) sc_law.nd rfl (.inl rfl))) (fun _ _ _ _ _ => pts_nil) (fun _ _ _ _ _ => (pe_ix ixHT (pe_tup (pa_cons (pe_callTy callLstB (by rfl) T.z_list (by decide +kernel) (pa_cons (pv 9) pa_nil)) (pa_cons (pe_callTy callTupB (by rfl) T.z_tuple (by decide +kernel) (pa_cons (pv 9) pa_nil)) pa_nil))) (pe_call G_law_take (hr.mono (by first | decide | exact Nat.le_refl _ | omega)) (by rfl) T.g_law_take T.F_law_take.kp T.b_law_take .nil pass0 (pa_cons (pv 1) (pa_cons pe_int pa_nil))) (fun _ _ => rfl)))) (pa_cons (pe_callTy callLstB (by rfl) T.z_list (by decide +kernel) (pa_cons (pv 5) pa_nil)) pa_nil))))
      (pss_cons (ps_set (i := 7) sc_law.nd rfl (.inl rfl) (pe_ix ixHT (pe_tup (pa_cons (pv 6) (pa_cons (pe_tup (pa_cons (pe_callTy callTupB (by rfl) T.z_tuple (by decide +kernel) (pa_cons (pe_ix ixH (pv 6) pe_int (fun _ _ => rfl)) pa_nil)) (pa_cons (pe_callTy callTupB (by rfl) T.z_tuple (by decide +kernel) (pa_cons (pe_ix ixH (pv 6) pe_int (fun _ _ => rfl)) pa_nil)) pa_nil))) pa_nil))) (pe_call G_law_take (hr.mono (by first | decide | exact Nat.le_refl _ | omega)) (by rfl) T.g_law_take T.F_law_take.kp T.b_law_take .nil pass0 (pa_cons (pv 1) (pa_cons pe_int pa_nil))) (fun _ _ => rfl)))
      (pss_cons (ps_set (i := 8) sc_law.nd rfl (.inl rfl) (pe_make T.K_Network G_Network_init (hr.mono (by first | decide | exact Nat.le_refl _ | omega)) (by rfl) T.g_Network T.b_Network_init .nil (passes_call (E := E0) takes0 (fun _ _ _ _ z => z)) (pa_cons (pv 3) (pa_cons (pe_ix ixHB (pv 7) pe_int (fun _ _ => rfl)) (pa_cons (pe_ix ixHB (pv 7) pe_int (fun _ _ => rfl)) pa_nil)))))
      (pss_cons (ps_for PassesOwn.never rfl (pi_list (pe_ix ixH (pv 6) pe_int (fun _ _ => rfl))) (pg_name (i := 9) sc_law.nd rfl (.inl rfl))
      (pss_one (ps_if (pt_val (pe_callB call_isi (by rfl) T.z_isinstance (by decide +kernel) (pa_cons (pv 9) (pa_cons (pe_bltn (v := .ty "list") (by rfl) T.z_list (by decide +kernel) rfl) pa_nil))))
      (pss_one (ps_expr (pe_bm PySem.F.plainAttrs_list PySem.F.slot_list_append PySem.F.type_list_append mt_append (pv 9) (pa_cons pe_str pa_nil))))
      pss_nil)))
      (pss_cons (ps_expr (pe_bm PySem.F.plainAttrs_list PySem.F.slot_list_append PySem.F.type_list_append mt_append (pe_ix ixH (pv 6) pe_int (fun _ _ => rfl)) (pa_cons (pe_lst pa_nil) pa_nil)))
      (pss_cons (ps_expr (pe_bm PySem.F.plainAttrs_list PySem.F.slot_list_append PySem.F.type_list_append mt_append (pe_ix ixH (pv 6) pe_int (fun _ _ => rfl)) (pa_cons pe_str pa_nil)))
      (pss_cons (ps_if (pt_not (pt_val (pe_call G_law_is_shown (hr.mono (by first | decide | exact Nat.le_refl _ | omega)) (by rfl) T.g_law_is_shown T.F_law_is_shown.kp T.b_law_is_shown .nil pass0 (pa_cons (pv 8) (pa_cons (pv 2) pa_nil)))))
      (pss_one (ps_ret pe_bl))
      pss_nil)
      (pss_cons (ps_if (pt_not (pt_val (pe_call G_law_same (hr.mono (by first | decide | exact Nat.le_refl _ | omega)) (by rfl) T.g_law_same T.F_law_same.kp T.b_law_same .nil pass0 (pa_cons (pe_tup (pa_cons (pe_meth0 (pv 8) T.C_Network T.M_Network_node_letters G_Network_node_letters (hr.mono (by first | decide | exact Nat.le_refl _ | omega)) T.b_Network_node_letters .nil pass0) (pa_cons (pe_meth0 (pv 8) T.C_Network T.M_Network_variable_letters G_Network_variable_letters (hr.mono (by first | decide | exact Nat.le_refl _ | omega)) T.b_Network_variable_letters .nil pass0) pa_nil))) (pa_cons (pe_tup (pa_cons (pe_slice sl_str pe_str po_none (po_some (pe_callB callLen (by rfl) T.z_len PySem.boot_len (pa_cons (pv 4) pa_nil)))) (pa_cons (pe_slice sl_str pe_str po_none (po_some (pv 3))) pa_nil))) pa_nil)))))
      (pss_one (ps_ret pe_bl))
      pss_nil)
      (pss_cons (ps_set (i := 9) sc_law.nd rfl (.inl rfl) (pe_lst pa_nil))
      (pss_cons (ps_for PassesOwn.never rfl (pi_range1 (by rfl) T.z_range (pa_cons (pe_callB callLen (by rfl) T.z_len PySem.boot_len (pa_cons (pv 4) pa_nil)) pa_nil)) (pg_name (i := 10) sc_law.nd rfl (.inl rfl))
      (pss_cons (ps_set (i := 9) sc_law.nd rfl (.inl rfl) (pe_op op_cat (pv 9) (pe_ix ixH (pv 4) (pv 10) (fun _ _ => rfl))))
      (pss_one (ps_if (pt_not (pt_val (pe_call G_law_same (hr.mono (by first | decide | exact Nat.le_refl _ | omega)) (by rfl) T.g_law_same T.F_law_same.kp T.b_law_same .nil pass0 (pa_cons (pe_meth (pv 8) T.C_Network T.M_Network_messages G_Network_messages (hr.mono (by first | decide | exact Nat.le_refl _ | omega)) T.b_Network_messages .nil (passes_call (E := E0) takes0 (fun _ _ _ _ z => z)) (pa_cons (pe_ix ix_str pe_str (pv 10) (fun _ _ => rfl)) pa_nil)) (pa_cons (pe_callTy callTupB (by rfl) T.z_tuple (by decide +kernel) (pa_cons (pe_ix ixH (pv 4) (pv 10) (fun _ _ => rfl)) pa_nil)) pa_nil)))))
      (pss_one (ps_ret pe_bl))
      pss_nil))))
      (pss_cons (ps_if (pt_not (pt_val (pe_call G_law_same (hr.mono (by first | decide | exact Nat.le_refl _ | omega)) (by rfl) T.g_law_same T.F_law_same.kp T.b_law_same .nil pass0 (pa_cons (pe_meth0 (pv 8) T.C_Network T.M_Network_all_messages G_Network_all_messages (hr.mono (by first | decide | exact Nat.le_refl _ | omega)) T.b_Network_all_messages .nil pass0) (pa_cons (pv 9) pa_nil)))))
      (pss_one (ps_ret pe_bl))
      pss_nil)
      (pss_cons (ps_for PassesOwn.never rfl (pi_range1 (by rfl) T.z_range (pa_cons pe_int pa_nil)) (pg_name (i := 11) sc_law.nd rfl (.inl rfl))
      (pss_cons (ps_set (i := 12) sc_law.nd rfl (.inl rfl) (pe_call G_law_text (hr.mono (by first | decide | exact Nat.le_refl _ | omega)) (by rfl) T.g_law_text T.F_law_text.kp T.b_law_text .nil pass0 (pa_cons (pv 1) (pa_cons pe_str pa_nil))))
      (pss_cons (ps_if (pt_not (pt_val (pe_call G_law_same (hr.mono (by first | decide | exact Nat.le_refl _ | omega)) (by rfl) T.g_law_same T.F_law_same.kp T.b_law_same .nil pass0 (pa_cons (pe_call G_is_message (hr.mono (by first | decide | exact Nat.le_refl _ | omega)) (by rfl) T.g_is_message T.F_is_message.kp T.b_is_message .nil pass0 (pa_cons (pv 3) (pa_cons (pv 12) pa_nil))) (pa_cons (pe_call G_law_is_message (hr.mono (by first | decide | exact Nat.le_refl _ | omega)) (by rfl) T.g_law_is_message T.F_law_is_message.kp T.b_law_is_message .nil pass0 (pa_cons (pv 3) (pa_cons (pv 12) pa_nil))) pa_nil)))))
      (pss_one (ps_ret pe_bl))
      pss_nil)
      (pss_cons (ps_set (i := 12) sc_law.nd rfl (.inl rfl) (pe_call G_law_text (hr.mono (by first | decide | exact Nat.le_refl _ | omega)) (by rfl) T.g_law_text T.F_law_text.kp T.b_law_text .nil pass0 (pa_cons (pv 1) (pa_cons pe_str pa_nil))))
      (pss_cons (ps_if (pt_not (pt_val (pe_call G_law_same (hr.mono (by first | decide | exact Nat.le_refl _ | omega)) (by rfl) T.g_law_same T.F_law_same.kp T.b_law_same .nil pass0 (pa_cons (pe_call G_is_link (hr.mono (by first | decide | exact Nat.le_refl _ | omega)) (by rfl) T.g_is_link T.F_is_link.kp T.b_is_link .nil pass0 (pa_cons (pe_callB callLen (by rfl) T.z_len PySem.boot_len (pa_cons (pv 4) pa_nil)) (pa_cons (pv 12) pa_nil))) (pa_cons (pe_call G_law_is_link (hr.mono (by first | decide | exact Nat.le_refl _ | omega)) (by rfl) T.g_law_is_link T.F_law_is_link.kp T.b_law_is_link .nil pass0 (pa_cons (pe_callB callLen (by rfl) T.z_len PySem.boot_len (pa_cons (pv 4) pa_nil)) (pa_cons (pv 12) pa_nil))) pa_nil)))))
      (pss_one (ps_ret pe_bl))
      pss_nil)
      (pss_cons (ps_set (i := 13) sc_law.nd rfl (.inl rfl) (pe_tup (pa_cons pe_str (pa_cons pe_bl pa_nil))))
      (pss_cons (ps_if (PW.pt (pw_and (pt_cmpR op_eq (pe_callB call_len_str (by rfl) T.z_len PySem.boot_len (pa_cons (pv 12) pa_nil)) pe_int (nomark _)) (pw_and1 (pt_cmpR op_in_sign (pv 12) (pe_slice sl_str pe_str po_none (po_some (pe_callB callLen (by rfl) T.z_len PySem.boot_len (pa_cons (pv 4) pa_nil)))) rfl))))
      (pss_one (ps_set (i := 13) sc_law.nd rfl (.inl rfl) (pe_bmS PySem.F.plainAttrs_str PySem.F.slot_str_index PySem.F.type_str_index (mt_indexX rfl takes0) pe_str (pa_cons (pv 12) pa_nil))))
      pss_nil)
      (pss_one (ps_if (pt_not (pt_val (pe_call G_law_same (hr.mono (by first | decide | exact Nat.le_refl _ | omega)) (by rfl) T.g_law_same T.F_law_same.kp T.b_law_same .nil pass0 (pa_cons (pe_call G_law_number (hr.mono (by first | decide | exact Nat.le_refl _ | omega)) (by rfl) T.g_law_number T.F_law_number.kp T.b_law_number .nil pass0 (pa_cons (pv 8) (pa_cons (pv 12) pa_nil))) (pa_cons (pv 13) pa_nil)))))
      (pss_one (ps_ret pe_bl))
      pss_nil)))))))))
      (pss_one (ps_ret (pe_call G_law_is_refused (hr.mono (by first | decide | exact Nat.le_refl _ | omega)) (by rfl) T.g_law_is_refused T.F_law_is_refused.kp T.b_law_is_refused .nil pass0 (pa_cons (pv 1) (pa_cons (pv 2) pa_nil)))))))))))))))))))), ?_⟩
    simp only [tSeq, tAsg, tRet, tRetN, tDrop, tIfS, tNext, tNever, tOp, tUn, tVar, tC, rI0, rI, rU, tTest, tIf, tB, tAnd, tOr, tNot, tAndV, tOrV, tNotV, gName, gSub, gTupH, gCons, gNil, tYes, tCons, tNil, tLst, tTup, tCB, tCall, tMeth, tMake, tFld, sFld, tFor_c, tLc_c, iRng1, iList, iTup, iStr, iSeqB, iEnumB, tM1, tSl, tPart, tNoPart, rSlS, rIxS, tBM, rAppend, tIf, rEq, rNe, scal, hIx, hIxT, hIxB, hSet, hInt, hIntB, hLen, hLenT, hLenB, L2.start, wipe, List.map_cons, List.map_nil, List.set_cons_zero, List.set_cons_succ, List.set_nil, List.length_cons, List.length_nil, List.length_map, List.cons_append, List.nil_append, List.append_nil, List.replicate, List.getElem?_cons_zero, List.getElem?_cons_succ, Option.some.injEq, V.int.injEq, V.bl.injEq, V.ref.injEq, V.str.injEq, List.cons.injEq, exists_eq_left', exists_eq_left, exists_and_left, and_assoc, upd_same, upd_upd, HO.lst.injEq, HO.tup.injEq, atI_0, atI_1, atI_2, atI_3, set_1, set_2, set_3, CDiv, CPow, CMul, List.length_set, Int.reduceToNat, Int.reduceLE, Int.reduceLT, Int.reducePow, Int.reduceNeg, Nat.reduceAdd, Nat.reduceLT, Nat.reduceLeDiff, Nat.reducePow, Nat.zero_add, or_true, true_or, gt_iff_lt, ge_iff_le, and_true, true_and, decide_eq_true_eq, if_true, Bool.false_eq_true, if_false]
    refine ⟨s0, ns, rfl, hS, hl, fun G0 H1 p hG hp hP => ?_⟩
    obtain ⟨c, p1⟩ := Pool.at hP
    have T1 : GxR.TabG H1 a.tG_Network_init := ⟨#[], hP.le _ _ (hG _ _ hTb), trivial⟩
    refine ⟨p, c, 6, 16, rfl, ⟨by decide, by decide⟩, ⟨by decide, by decide⟩, p1, fun n t an al rows links G o1 pG hR rG lG mG hlk => ?_⟩
    have TG := tab_off T1 p1 o1
    refine ⟨t, rfl, _, rG, rfl, _, _, rfl, _, _, rfl, _, _, rfl, rfl, ?_⟩
    obtain ⟨ls, l1, l2, l3, l4⟩ := lG.ex
    have b6 := hR.h1
    refine ⟨an, rfl, ⟨_, SqL.of l1⟩, lcLst (xs := ls.map V.ref) (fun i D H' => ∃ us : List Addr, H' D = some (.lst (us.map V.ref)) ∧ us.length = i ∧ (∀ (j : Nat) (r : List Str) (u : Addr), rows[j]? = some r → us[j]? = some u → RowAt H' u (r.map V.str)) ∧ (∀ u ∈ us, ((∃ xs, H' u = some (.tup xs)) ∨ G u = none) ∧ u ≠ D) ∧ Off1 p G H' ∧ PoolAt H' p c) ?_ ?_ ?_ ?_⟩
    · intro D hD
      exact ⟨[], upd_same, rfl, (fun j r u _ e => by cases e), (fun u hu => absurd hu List.not_mem_nil), (Off1.refl).new hD, pG.new hD⟩
    · rintro i D H' hD _ ⟨us, eD, ul, ok, fr, o2, p2⟩
      exact SqL.of (o2 _ _ (pG.ne_ref l1) l1)
    · rintro i x D H' hD hx ⟨us, eD, ul, ok, fr, o2, p2⟩
      obtain ⟨u0, hu0, rfl⟩ := map_at hx
      have hi : i < rows.length := by
        rw [← l2]
        exact (List.getElem?_eq_some_iff.mp hu0).1
      have hri : rows[i]? = some rows[i] := List.getElem?_eq_getElem hi
      have e0 : H' u0 = some (.lst (rows[i].map V.str)) := o2 _ _ (pG.ne_str (l4 i _ u0 hri hu0)) (l4 i _ u0 hri hu0)
      have Dp : D ≠ p := pG.ne_p hD
      refine ⟨rfl, ?_⟩
      simp only [tSeq, tAsg, tRet, tRetN, tDrop, tIfS, tNext, tNever, tOp, tUn, tVar, tC, rI0, rI, rU, tTest, tIf, tB, tAnd, tOr, tNot, tAndV, tOrV, tNotV, gName, gSub, gTupH, gCons, gNil, tYes, tCons, tNil, tLst, tTup, tCB, tCall, tMeth, tMake, tFld, sFld, tFor_c, tLc_c, iRng1, iList, iTup, iStr, iSeqB, iEnumB, tM1, tSl, tPart, tNoPart, rSlS, rIxS, tBM, rAppend, tIf, rEq, rNe, scal, hIx, hIxT, hIxB, hSet, hInt, hIntB, hLen, hLenT, hLenB, L2.start, wipe, List.map_cons, List.map_nil, List.set_cons_zero, List.set_cons_succ, List.set_nil, List.length_cons, List.length_nil, List.length_map, List.cons_append, List.nil_append, List.append_nil, List.replicate, List.getElem?_cons_zero, List.getElem?_cons_succ, Option.some.injEq, V.int.injEq, V.bl.injEq, V.ref.injEq, V.str.injEq, List.cons.injEq, exists_eq_left', exists_eq_left, exists_and_left, and_assoc, upd_same, upd_upd, HO.lst.injEq, HO.tup.injEq, atI_0, atI_1, atI_2, atI_3, set_1, set_2, set_3, CDiv, CPow, CMul, List.length_set, Int.reduceToNat, Int.reduceLE, Int.reduceLT, Int.reducePow, Int.reduceNeg, Nat.reduceAdd, Nat.reduceLT, Nat.reduceLeDiff, Nat.reducePow, Nat.zero_add, or_true, true_or, gt_iff_lt, ge_iff_le, and_true, true_and, decide_eq_true_eq, if_true, Bool.false_eq_true, if_false]
      refine ⟨u0, _, rfl, .inl e0, ?_⟩
      (intro d1 n1; generalize hG : upd _ d1 _ = Ha; have sa := gen_same n1 hG; have ea := gen_at hG; clear hG)
      refine ⟨u0, _, rfl, .inl (sa _ _ e0), fun d2 Hb sb h2 eb => ⟨Nat.le_of_ble_eq_true rfl, ?_⟩⟩
      (intro d3 n3; generalize hG : upd _ d3 _ = Hc; have sc := gen_same n3 hG; have ec := gen_at hG; clear hG)
      have pb := (p2.same sa).same sb
      have pc := pb.same sc
      have sbc := Same.tr (Same.tr sa sb) sc
      refine take_pool pc (by decide) (by decide) fun r Hd r0 r1 o3 _ p3 => ?_
      have kd : ∀ {b : Addr} {o : HO}, b ≠ p → H' b = some o → Hd b = some o := fun hb e => o3 _ _ hb (sbc _ _ e)
      have eDd := kd Dp eD
      have ed1 := o3 _ _ (p2.ne_p n1) (sc _ _ (sb _ _ ea))
      have ed2 := o3 _ _ (pb.ne_tup eb) (sc _ _ eb)
      have ed3 := o3 _ _ (pb.ne_p n3) ec
      have d1D : d1 ≠ D := fun z => by
        rw [z, eD] at n1
        cases n1
      have d2D : d2 ≠ D := fun z => by
        rw [z, eDd] at ed2
        cases ed2
      have hus : us.length ≤ 6 := by omega
      have fin : ∀ u, RowAt Hd u (rows[i].map V.str) → ((∃ xs, Hd u = some (.tup xs)) ∨ G u = none) → u ≠ D → ∃ us' : List Addr, (us.map V.ref) ++ [V.ref u] = us'.map V.ref ∧ us'.length = i + 1 ∧
          (∀ (j : Nat) (r : List Str) (v : Addr), rows[j]? = some r → us'[j]? = some v → RowAt (upd Hd D (.lst (us.map V.ref ++ [V.ref u]))) v (r.map V.str)) ∧ (∀ v ∈ us', ((∃ xs, upd Hd D (.lst (us.map V.ref ++ [V.ref u])) v = some (.tup xs)) ∨ G v = none) ∧ v ≠ D) ∧ Off1 p G (upd Hd D (.lst (us.map V.ref ++ [V.ref u]))) ∧ PoolAt (upd Hd D (.lst (us.map V.ref ++ [V.ref u]))) p c := by
        intro u hu hg huD
        refine ⟨us ++ [u], by rw [List.map_append]; rfl, by rw [List.length_append, ul]; rfl, fun j r v hj hv => ?_, fun v hv => ?_, ((o2.tr (.of sbc)).tr o3).wr hD, p3.wr Dp (pG.ne_c hD)⟩
        · by_cases hji : j < i
          · rw [List.getElem?_append_left (by omega)] at hv
            have z := ok j r v hj hv
            have vD := (fr v (List.mem_of_getElem? hv)).2
            have z2 : RowAt Hd v (r.map V.str) := z.imp (kd (p2.ne_row z)) (kd (p2.ne_row z))
            exact z2.imp (fun e => by rw [upd_ne vD]; exact e) (fun e => by rw [upd_ne vD]; exact e)
          · rw [List.getElem?_append_right (by omega)] at hv
            have hz : j - us.length = 0 := by
              have := (List.getElem?_eq_some_iff.mp hv).1
              simp only [List.length_cons, List.length_nil] at this
              omega
            rw [hz] at hv
            cases hv
            have : j = i := by omega
            subst this
            rw [hri] at hj
            cases hj
            exact hu.imp (fun e => by rw [upd_ne huD]; exact e) (fun e => by rw [upd_ne huD]; exact e)
        · rcases List.mem_append.mp hv with z | z
          · obtain ⟨z1, z2⟩ := fr v z
            refine ⟨z1.imp (fun ⟨xs, e⟩ => ⟨xs, by rw [upd_ne z2]; exact kd (p2.ne_tup e) e⟩) id, z2⟩
          · rw [List.mem_singleton.mp z]
            exact ⟨hg.imp (fun ⟨xs, e⟩ => ⟨xs, by rw [upd_ne huD]; exact e⟩) id, huD⟩
      have hr2 : r.toNat < 2 := by omega
      match h : r.toNat, hr2 with
      | 0, _ =>
        refine ⟨_, _, rfl, ed3, _, by rw [← Int.toNat_of_nonneg r0, h]; exact atI_nat (j := 0) rfl, _, eDd, by rw [List.length_map]; exact small1000 (by omega), ?_⟩
        exact fin d1 (.inl ed1) (.inr (o2.fresh p2 n1)) d1D
      | 1, _ =>
        refine ⟨_, _, rfl, ed3, _, by rw [← Int.toNat_of_nonneg r0, h]; exact atI_nat (j := 1) rfl, _, eDd, by rw [List.length_map]; exact small1000 (by omega), ?_⟩
        exact fin d2 (.inr ed2) (.inl ⟨_, ed2⟩) d2D
    · rintro D H2 hD ⟨us, eD, ul, ok, fr, o2, p2⟩
      have Dp : D ≠ p := pG.ne_p hD
      rw [List.length_map, l2] at ul
      refine ⟨al, _, rfl, .inl (o2 _ _ (pG.ne_str mG) mG), ?_⟩
      (intro e1 n1; generalize hG : upd _ e1 _ = H3; have s3 := gen_same n1 hG; have ee := gen_at hG; clear hG)
      refine ⟨Nat.le_of_ble_eq_true rfl, ?_⟩
      (intro f n2; generalize hG : upd _ f _ = H4; have s4 := gen_same n2 hG; have ef := gen_at hG; clear hG)
      refine ⟨D, _, rfl, .inl (s4 _ _ (s3 _ _ eD)), fun g1 H5 s5 h5 eg1 => ⟨_, s5 _ _ ef, _, atI_1, e1, _, rfl, .inl (s5 _ _ (s4 _ _ ee)), fun g2 H6 s6 h6 eg2 => ⟨Nat.le_of_ble_eq_true rfl, ?_⟩⟩⟩
      (intro g3 n3; generalize hG : upd _ g3 _ = H7; have s7 := gen_same n3 hG; have eg3 := gen_at hG; clear hG)
      refine ⟨Nat.le_of_ble_eq_true rfl, ?_⟩
      (intro g4 n4; generalize hG : upd _ g4 _ = H8; have s8 := gen_same n4 hG; have eg4 := gen_at hG; clear hG)
      have p3 := p2.same s3
      have p4 := p3.same s4
      have p5 := p4.same s5
      have p6 := p5.same s6
      have p7 := p6.same s7
      have p8 := p7.same s8
      refine take_pool p8 (by decide) (by decide) fun r H9 r0 r1 o9 _ p9 => ?_
      have s28 : Same H2 H8 := Same.tr (Same.tr (Same.tr (Same.tr (Same.tr s3 s4) s5) s6) s7) s8
      have o29 : Off1 p H2 H9 := (Off1.of s28).tr o9
      have eD9 := o29 _ _ Dp eD
      have ee9 := o9 _ _ (p2.ne_p n1) (s8 _ _ (s7 _ _ (s6 _ _ (s5 _ _ (s4 _ _ ee)))))
      have ef9 := o9 _ _ (p3.ne_p n2) (s8 _ _ (s7 _ _ (s6 _ _ (s5 _ _ ef))))
      have eg19 := o9 _ _ (p5.ne_tup eg1) (s8 _ _ (s7 _ _ (s6 _ _ eg1)))
      have eg29 := o9 _ _ (p6.ne_tup eg2) (s8 _ _ (s7 _ _ eg2))
      have eg39 := o9 _ _ (p6.ne_p n3) (s8 _ _ eg3)
      have eg49 := o9 _ _ (p7.ne_p n4) eg4
      obtain ⟨hd, x0, x1, ha, hrow, hx0, hx1⟩ : ∃ hd x0 x1, atI [V.ref f, V.ref g3] r = some (V.ref hd) ∧ RowAt H9 hd [.ref x0, .ref x1] ∧ RowAt H9 x0 (us.map V.ref) ∧ RowAt H9 x1 (links.map V.str) := by
        have hr2 : r.toNat < 2 := by omega
        match h : r.toNat, hr2 with
        | 0, _ => exact ⟨f, D, e1, by rw [← Int.toNat_of_nonneg r0, h]; exact atI_nat (j := 0) rfl, .inl ef9, .inl eD9, .inl ee9⟩
        | 1, _ => exact ⟨g3, g1, g2, by rw [← Int.toNat_of_nonneg r0, h]; exact atI_nat (j := 1) rfl, .inr eg39, .inr eg19, .inr eg29⟩
      refine ⟨_, _, rfl, eg49, _, ha, hd, rfl, _, hrow, _, atI_0, hd, rfl, _, hrow, _, atI_1, fun nw dx hnw hdx hne => ?_⟩
      have hlen : us.length = rows.length := ul
      have oG9 : Off1 p G H9 := o2.tr o29
      have rows9 : ∀ (j : Nat) (r : List Str) (u : Addr), rows[j]? = some r → us[j]? = some u → RowAt H9 u (r.map V.str) := fun j r u hj hu => row_off (ok j r u hj hu) (p2.ne_row (ok j r u hj hu)) o29
      have T9 := tab_off TG pG oG9
      have sx : Same H9 (upd (upd H9 dx (.own nw)) nw (.ins a.c_Network dx [])) := fun b o e => by
        rw [upd_ne (ne_of_none e hnw), upd_ne (ne_of_none e hdx)]
        exact e
      refine ⟨nw, dx, n, x0, x1, rows, links, rfl, upd_same, ⟨us, row_same hx0 sx, hlen, fun j r u hj hu => row_same (rows9 j r u hj hu) sx⟩, row_same hx1 sx, (fun x hx => by have := hlk x hx; omega), tab_same T9 sx, fun _ Hn off tabn hN => ⟨rfl, ?_⟩, fun v1 v2 v3 hW => (hW.no hR).elim⟩
      have kn : ∀ b o, b ≠ a.tG_Network_init → H9 b = some o → Hn b = some o := fun b o hb e => off b o hb (ne_of_none e hnw) (sx _ _ e)
      obtain ⟨tps, htp, _⟩ := TG
      have tG : ∀ {b : Addr}, G b = none → b ≠ a.tG_Network_init := fun e z => by
        rw [z, htp] at e
        cases e
      have tL : ∀ {b : Addr} {xs : List V}, RowAt H9 b xs → b ≠ a.tG_Network_init := fun {b xs} e z => by
        obtain ⟨ps, e2, _⟩ := T9
        rw [z] at e
        rcases e with e | e <;> (rw [e2] at e; cases e)
      have pn : PoolAt Hn p c := by
        obtain ⟨cells, i, d, x, h1, h2, h3⟩ := p9.ex
        refine ⟨p9.ne, cells, i, d, x, kn _ _ (fun z => ?_) h1, kn _ _ (tL (.inl h2)) h2, h3⟩
        obtain ⟨ps, e2, _⟩ := T9
        rw [z, e2] at h1
        cases h1
      refine ⟨_, kn _ _ (tL (.inl ef9)) ef9, _, atI_0, D, rfl, ⟨_, SqL.of (kn _ _ (tL (.inl eD9)) eD9)⟩, ?_⟩
      have gk : ∀ b o, b ≠ p → b ≠ a.tG_Network_init → G b = some o → Hn b = some o := fun b o h1 h2 e => kn _ _ h2 (oG9 _ _ h1 e)
      refine forLst (xs := us.map V.ref) (fun i σ H' => (∃ v9, σ = [some (.ref s0), some (.ref p), some (.ref t), some (.int n), some (.ref an), some (.ref al), some (.ref f), some (.ref hd), some (.ref nw), v9, none, none, none, none]) ∧ NetAt a.c_Network H' nw n rows links ∧ (∀ b o, b ≠ p → b ≠ a.tG_Network_init → G b = some o → H' b = some o) ∧ PoolAt H' p c ∧ GxR.TabG H' a.tG_Network_init ∧
        H' D = some (.lst (us.map V.ref)) ∧ H' f = some (.lst [.ref D, .ref e1]) ∧ H' e1 = some (.lst (links.map V.str)) ∧ ∀ u ∈ us, (∃ xs, H' u = some (.tup xs)) ∨ (∃ ys, H' u = some (.lst ys) ∧ ys.length ≤ 10 + i ∧ G u = none ∧ u ≠ D ∧ u ≠ f ∧ u ≠ e1)) ?_ ?_ ?_ ?_
      · refine ⟨⟨none, rfl⟩, hN, gk, pn, tabn, kn _ _ (tL (.inl eD9)) eD9, kn _ _ (tL (.inl ef9)) ef9, kn _ _ (tL (.inl ee9)) ee9, fun u hu => ?_⟩
        obtain ⟨j, hj, ej⟩ := List.mem_iff_getElem.mp hu
        have huj : us[j]? = some u := by rw [List.getElem?_eq_getElem hj, ej]
        have hrj : rows[j]? = some (rows[j]'(by omega)) := List.getElem?_eq_getElem _
        have z9 := rows9 j _ u hrj huj
        have z2 := ok j _ u hrj huj
        rcases z9 with z | z
        · refine .inr ⟨_, kn _ _ (tL (.inl z)) z, ?_, ?_, (fr u hu).2, fun e => ?_, fun e => ?_⟩
          · rw [List.length_map]
            have := (row_small (hR.h2 _ (List.getElem_mem (show j < rows.length by omega)))).1
            omega
          · rcases (fr u hu).1 with ⟨xs, e⟩ | e
            · rw [o29 _ _ (p2.ne_tup e) e] at z
              cases z
            · exact e
          · rw [← e] at n2
            rcases z2 with z2 | z2 <;> (rw [s3 _ _ z2] at n2; cases n2)
          · rw [← e] at n1
            rcases z2 with z2 | z2 <;> (rw [z2] at n1; cases n1)
        · exact .inl ⟨_, kn _ _ (tL (.inr z)) z⟩
      · rintro i σ H' _ ⟨_, _, _, _, _, eD', _⟩
        exact SqL.of eD'
      · rintro i x σ H' hx ⟨⟨v9, rfl⟩, hN', gk', pn', tab', eD', ef', ee', hus'⟩
        obtain ⟨u, hu, rfl⟩ := map_at hx
        have hiu : i < us.length := (List.getElem?_eq_some_iff.mp hu).1
        simp only [tSeq, tAsg, tRet, tRetN, tDrop, tIfS, tNext, tNever, tOp, tUn, tVar, tC, rI0, rI, rU, tTest, tIf, tB, tAnd, tOr, tNot, tAndV, tOrV, tNotV, gName, gSub, gTupH, gCons, gNil, tYes, tCons, tNil, tLst, tTup, tCB, tCall, tMeth, tMake, tFld, sFld, tFor_c, tLc_c, iRng1, iList, iTup, iStr, iSeqB, iEnumB, tM1, tSl, tPart, tNoPart, rSlS, rIxS, tBM, rAppend, tIf, rEq, rNe, scal, hIx, hIxT, hIxB, hSet, hInt, hIntB, hLen, hLenT, hLenB, L2.start, wipe, List.map_cons, List.map_nil, List.set_cons_zero, List.set_cons_succ, List.set_nil, List.length_cons, List.length_nil, List.length_map, List.cons_append, List.nil_append, List.append_nil, List.replicate, List.getElem?_cons_zero, List.getElem?_cons_succ, Option.some.injEq, V.int.injEq, V.bl.injEq, V.ref.injEq, V.str.injEq, List.cons.injEq, exists_eq_left', exists_eq_left, exists_and_left, and_assoc, upd_same, upd_upd, HO.lst.injEq, HO.tup.injEq, atI_0, atI_1, atI_2, atI_3, set_1, set_2, set_3, CDiv, CPow, CMul, List.length_set, Int.reduceToNat, Int.reduceLE, Int.reduceLT, Int.reducePow, Int.reduceNeg, Nat.reduceAdd, Nat.reduceLT, Nat.reduceLeDiff, Nat.reducePow, Nat.zero_add, or_true, true_or, gt_iff_lt, ge_iff_le, and_true, true_and, decide_eq_true_eq, if_true, Bool.false_eq_true, if_false]
        rcases hus' u (List.mem_of_getElem? hu) with ⟨xs, e⟩ | ⟨ys, e, yl, gu, uD, uf, ue⟩
        · refine isi_of (.tup e) (by rfl) ⟨false, rfl, iteF ⟨⟨_, rfl⟩, hN', gk', pn', tab', eD', ef', ee', fun v hv => (hus' v hv).imp id fun ⟨ys, h1, h2, h3⟩ => ⟨ys, h1, by omega, h3⟩⟩⟩
        · refine isi_of (.lst e) (by rfl) ⟨true, rfl, iteT ⟨.inl ⟨rfl, _, SqL.of e⟩, _, e, small1000 (by omega), ⟨_, rfl⟩, hN'.wr e, fun b o h1 h2 hb => ?_, pn'.wr (pG.ne_p gu) (pG.ne_c gu), ?_, ?_, ?_, ?_, fun v hv => ?_⟩⟩
          · rw [upd_ne (ne_of_none hb gu)]
            exact gk' b o h1 h2 hb
          · obtain ⟨ps, h1, h2⟩ := tab'
            exact ⟨ps, by rw [upd_ne (tG gu).symm]; exact h1, h2⟩
          · rw [upd_ne uD.symm]
            exact eD'
          · rw [upd_ne uf.symm]
            exact ef'
          · rw [upd_ne ue.symm]
            exact ee'
          · by_cases hvu : v = u
            · rw [hvu]
              exact .inr ⟨_, upd_same, by rw [List.length_append, List.length_singleton]; omega, gu, uD, uf, ue⟩
            · rw [upd_ne hvu]
              exact (hus' v hv).imp id fun ⟨ys, h1, h2, h3⟩ => ⟨ys, h1, by omega, h3⟩
      · rintro σ H' ⟨⟨v9, rfl⟩, hN', gk', pn', tab', eD', ef', ee', hus'⟩
        clear hus'
        simp only [tSeq, tAsg, tRet, tRetN, tDrop, tIfS, tNext, tNever, tOp, tUn, tVar, tC, rI0, rI, rU, tTest, tIf, tB, tAnd, tOr, tNot, tAndV, tOrV, tNotV, gName, gSub, gTupH, gCons, gNil, tYes, tCons, tNil, tLst, tTup, tCB, tCall, tMeth, tMake, tFld, sFld, tFor_c, tLc_c, iRng1, iList, iTup, iStr, iSeqB, iEnumB, tM1, tSl, tPart, tNoPart, rSlS, rIxS, tBM, rAppend, tIf, rEq, rNe, scal, hIx, hIxT, hIxB, hSet, hInt, hIntB, hLen, hLenT, hLenB, L2.start, wipe, List.map_cons, List.map_nil, List.set_cons_zero, List.set_cons_succ, List.set_nil, List.length_cons, List.length_nil, List.length_map, List.cons_append, List.nil_append, List.append_nil, List.replicate, List.getElem?_cons_zero, List.getElem?_cons_succ, Option.some.injEq, V.int.injEq, V.bl.injEq, V.ref.injEq, V.str.injEq, List.cons.injEq, exists_eq_left', exists_eq_left, exists_and_left, and_assoc, upd_same, upd_upd, HO.lst.injEq, HO.tup.injEq, atI_0, atI_1, atI_2, atI_3, set_1, set_2, set_3, CDiv, CPow, CMul, List.length_set, Int.reduceToNat, Int.reduceLE, Int.reduceLT, Int.reducePow, Int.reduceNeg, Nat.reduceAdd, Nat.reduceLT, Nat.reduceLeDiff, Nat.reducePow, Nat.zero_add, or_true, true_or, gt_iff_lt, ge_iff_le, and_true, true_and, decide_eq_true_eq, if_true, Bool.false_eq_true, if_false]
        have ge1 : G e1 = none := o2.fresh p2 n1
        have fD : f ≠ D := fun z => by
          rw [z, s3 _ _ eD] at n2
          cases n2
        have eD1 : e1 ≠ D := fun z => by
          rw [z, eD] at n1
          cases n1
        refine ⟨_, ef', _, atI_0, .inl ⟨rfl, _, SqL.of eD'⟩, Nat.zero_le _, ?_⟩
        (intro m1 nm; generalize hG : upd _ m1 _ = H10; have s10 := gen_same nm hG; have em := gen_at hG; clear hG)
        refine ⟨D, rfl, _, s10 _ _ eD', small1000 (by rw [List.length_map]; omega), _, by rw [upd_ne fD]; exact s10 _ _ ef', V.ref e1, atI_1, .inl ⟨rfl, _, SqL.of (by rw [upd_ne eD1]; exact s10 _ _ ee')⟩, e1, rfl, _, by rw [upd_ne eD1]; exact s10 _ _ ee', small1000 (by rw [List.length_map]; have := hR.h3; omega), ?_⟩
        have hSt : StL a.c_Network a.tG_Network_init p c t an al nw n rows links (upd (upd H10 D (.lst (us.map V.ref ++ [.ref m1]))) e1 (.lst (links.map V.str ++ [.str "AB"]))) := by
          refine ⟨((hN'.same s10).wr (s10 _ _ eD')).wr (by rw [upd_ne eD1]; exact s10 _ _ ee'), RowsAt.gk ⟨rG, lG, mG⟩ pG ⟨tps, htp, by assumption⟩ fun b o h1 h2 e => ?_, ((pn'.same s10).wr Dp (pG.ne_c hD)).wr (pG.ne_p ge1) (pG.ne_c ge1), ?_⟩
          · rw [upd_ne (ne_of_none e ge1), upd_ne (ne_of_none e hD)]
            exact s10 _ _ (gk' b o h1 h2 e)
          · obtain ⟨ps, h1, h2⟩ := tab'
            exact ⟨ps, by rw [upd_ne (tG ge1).symm, upd_ne (tG hD).symm]; exact s10 _ _ h1, h2⟩
        generalize upd (upd H10 D (HO.lst (us.map V.ref ++ [V.ref m1]))) e1 (HO.lst (links.map V.str ++ [V.str "AB"])) = Hs at hSt
        refine ⟨nw, t, an, al, n, rows, links, rfl, hSt.net, hSt.row, hR, fun Ht st => ⟨true, rfl, iteF ?_⟩⟩
        replace hSt := hSt.same st
        clear hN' gk' pn' tab' eD' ef' ee' gk pn tabn kn tG tL ok fr o2 p2 eD rows9
        obtain ⟨m, rfl⟩ : ∃ m : Nat, n = m := ⟨n.toNat, by have := hR.h0; omega⟩
        have hm6 : m ≤ 6 := by have := hR.h0; omega
        obtain ⟨ndx, _, _, _, nfs, h1, _, _, _, h5, h6, _⟩ := hSt.net.ex
        refine ⟨ndx, nfs, h1, h5, nw, m, rows, links, rfl, hSt.net, ndx, nfs, h1, h6, nw, m, rows, links, rfl, hSt.net, Nat.le_of_ble_eq_true rfl, ?_⟩
        (intro q1 nq1; generalize hG : upd _ q1 _ = Hu; have su := gen_same nq1 hG; have eu := gen_at hG; clear hG)
        obtain ⟨as2, A1, A2, A3, A4⟩ := (hSt.same su).row.2.1.ex
        refine ⟨_, A1, by decide +kernel, by decide +kernel, Nat.le_of_ble_eq_true rfl, ?_⟩
        (intro q2 nq2; generalize hG : upd _ q2 _ = Hv; have sv := gen_same nq2 hG; have ev := gen_at hG; clear hG)
        rw [List.length_map, A2, cutAN b6.2, cutAV hm6] at ev
        refine ⟨_, _, rfl, SameD.two (sv _ _ eu) ev (.str 2 _) (.str 2 _), fun Hw sw => ⟨true, rfl, iteF ⟨Nat.zero_le _, ?_⟩⟩⟩
        (intro r0 nr0; generalize hG : upd _ r0 _ = Hx; have sx := gen_same nr0 hG; have ex := gen_at hG; clear hG)
        replace hSt := (((hSt.same su).same sv).same sw).same sx
        have Ax : Hx an = some (.lst (as2.map V.ref)) := sx _ _ (sw _ _ (sv _ _ A1))
        have el2 : ((as2.map V.ref).length : Int) = (rows.length : Int) := by rw [List.length_map, A2]
        refine ⟨_, Ax, by omega, by omega, ?_⟩
        rw [el2, Int.toNat_natCast]
        refine forRng (fun i σ H' => (∃ w v10, σ = [some (.ref s0), some (.ref p), some (.ref t), some (.int m), some (.ref an), some (.ref al), some (.ref f), some (.ref hd), some (.ref nw), some (.ref w), v10, none, none, none] ∧ H' w = some (.lst ((rows.take i).flatten.map V.str))) ∧ StL a.c_Network a.tG_Network_init p c t an al nw m rows links H') ?_ ?_ ?_
        · exact ⟨⟨r0, none, rfl, ex⟩, hSt⟩
        · rintro i σ H' hi ⟨⟨w, v10, rfl, ew⟩, hS'⟩
          have hri : rows[i]? = some rows[i] := List.getElem?_eq_getElem hi
          obtain ⟨as3, B1, B2, B3, B4⟩ := hS'.row.2.1.ex
          have hai : as3[i]? = some (as3[i]'(by omega)) := List.getElem?_eq_getElem _
          have hmi : (as3.map V.ref)[i]? = some (V.ref (as3[i]'(by omega))) := by rw [List.getElem?_map, hai]; rfl
          have hrow := B4 i _ _ hri hai
          have ei : (0 : Int) + (i : Nat) = (i : Nat) := Int.zero_add _
          have r4 := (row_small (hR.h2 _ (List.getElem_mem hi))).1
          have f4 := flat4 (rows.take i) fun x hx => (row_small (hR.h2 _ (List.mem_of_mem_take hx))).1
          rw [List.length_take] at f4
          simp only [tSeq, tAsg, tRet, tRetN, tDrop, tIfS, tNext, tNever, tOp, tUn, tVar, tC, rI0, rI, rU, tTest, tIf, tB, tAnd, tOr, tNot, tAndV, tOrV, tNotV, gName, gSub, gTupH, gCons, gNil, tYes, tCons, tNil, tLst, tTup, tCB, tCall, tMeth, tMake, tFld, sFld, tFor_c, tLc_c, iRng1, iList, iTup, iStr, iSeqB, iEnumB, tM1, tSl, tPart, tNoPart, rSlS, rIxS, tBM, rAppend, tIf, rEq, rNe, scal, hIx, hIxT, hIxB, hSet, hInt, hIntB, hLen, hLenT, hLenB, L2.start, wipe, List.map_cons, List.map_nil, List.set_cons_zero, List.set_cons_succ, List.set_nil, List.length_cons, List.length_nil, List.length_map, List.cons_append, List.nil_append, List.append_nil, List.replicate, List.getElem?_cons_zero, List.getElem?_cons_succ, Option.some.injEq, V.int.injEq, V.bl.injEq, V.ref.injEq, V.str.injEq, List.cons.injEq, exists_eq_left', exists_eq_left, exists_and_left, and_assoc, upd_same, upd_upd, HO.lst.injEq, HO.tup.injEq, atI_0, atI_1, atI_2, atI_3, set_1, set_2, set_3, CDiv, CPow, CMul, List.length_set, Int.reduceToNat, Int.reduceLE, Int.reduceLT, Int.reducePow, Int.reduceNeg, Nat.reduceAdd, Nat.reduceLT, Nat.reduceLeDiff, Nat.reducePow, Nat.zero_add, or_true, true_or, gt_iff_lt, ge_iff_le, and_true, true_and, decide_eq_true_eq, if_true, Bool.false_eq_true, if_false]
          rw [ei]
          refine ⟨_, B1, _, atI_nat hmi, cat_of ew hrow (by rw [List.length_map, List.length_map]; omega) ?_⟩
          (intro w2 nw2; generalize hG : upd _ w2 _ = Ha; have sa := gen_same nw2 hG; have ea := gen_at hG; clear hG)
          obtain ⟨ndx, _, _, _, nfs, h1, _, _, _, _, _, h7, _⟩ := (hS'.same sa).net.ex
          have hc : AN[i]? = some (AN[i]'(by rw [AN_len]; omega)) := List.getElem?_eq_getElem _
          refine ⟨_, _, h1, h7, by decide +kernel, _, atI_nat ((sixN_at (by omega)).trans hc), nw, m, rows, links, i, _, rows[i], rfl, (hS'.same sa).net, b6.2, AN_lt _ (List.mem_of_getElem? hc), by rw [List.getElem?_take, if_pos hi]; exact hc, hri, fun tt htt => ?_⟩
          refine ⟨_, sa _ _ B1, _, atI_nat hmi, _, _, rfl, .inl (sa _ _ hrow), fun t2 Hb sb _ e2 => ?_⟩
          refine ⟨_, _, rfl, ((SameD.row (sb _ _ htt) e2 (by omega)).up).up, fun Hc sc => ⟨true, rfl, iteF ⟨⟨w2, rfl, ?_⟩, ((hS'.same sa).same sb).same sc⟩⟩⟩
          rw [flat_take hri, List.map_append]
          exact sc _ _ (sb _ _ ea)
        · rintro σ H' ⟨⟨w, v10, rfl, ew⟩, hS'⟩
          rw [List.take_length] at ew
          have f4 := flat4 rows fun x hx => (row_small (hR.h2 _ hx)).1
          obtain ⟨ndx, _, _, _, nfs, h1, _, _, _, _, _, _, h8, _⟩ := hS'.net.ex
          simp only [tSeq, tAsg, tRet, tRetN, tDrop, tIfS, tNext, tNever, tOp, tUn, tVar, tC, rI0, rI, rU, tTest, tIf, tB, tAnd, tOr, tNot, tAndV, tOrV, tNotV, gName, gSub, gTupH, gCons, gNil, tYes, tCons, tNil, tLst, tTup, tCB, tCall, tMeth, tMake, tFld, sFld, tFor_c, tLc_c, iRng1, iList, iTup, iStr, iSeqB, iEnumB, tM1, tSl, tPart, tNoPart, rSlS, rIxS, tBM, rAppend, tIf, rEq, rNe, scal, hIx, hIxT, hIxB, hSet, hInt, hIntB, hLen, hLenT, hLenB, L2.start, wipe, List.map_cons, List.map_nil, List.set_cons_zero, List.set_cons_succ, List.set_nil, List.length_cons, List.length_nil, List.length_map, List.cons_append, List.nil_append, List.append_nil, List.replicate, List.getElem?_cons_zero, List.getElem?_cons_succ, Option.some.injEq, V.int.injEq, V.bl.injEq, V.ref.injEq, V.str.injEq, List.cons.injEq, exists_eq_left', exists_eq_left, exists_and_left, and_assoc, upd_same, upd_upd, HO.lst.injEq, HO.tup.injEq, atI_0, atI_1, atI_2, atI_3, set_1, set_2, set_3, CDiv, CPow, CMul, List.length_set, Int.reduceToNat, Int.reduceLE, Int.reduceLT, Int.reducePow, Int.reduceNeg, Nat.reduceAdd, Nat.reduceLT, Nat.reduceLeDiff, Nat.reducePow, Nat.zero_add, or_true, true_or, gt_iff_lt, ge_iff_le, and_true, true_and, decide_eq_true_eq, if_true, Bool.false_eq_true, if_false]
          refine ⟨_, _, h1, h8, nw, m, rows, links, rfl, hS'.net, by omega, ?_⟩
          (intro q3 nq3; generalize hG : upd _ q3 _ = Ha; have sa := gen_same nq3 hG; have ea := gen_at hG; clear hG)
          refine ⟨_, _, rfl, ((SameD.rowL ea (sa _ _ ew) (by omega)).up).up, fun Hb sb => ⟨true, rfl, iteF ?_⟩⟩
          replace hS' := (hS'.same sa).same sb
          refine forRng (n := 4) (fun i σ H' => (∃ v10 v11 v12 v13, σ = [some (.ref s0), some (.ref p), some (.ref t), some (.int m), some (.ref an), some (.ref al), some (.ref f), some (.ref hd), some (.ref nw), some (.ref w), v10, v11, v12, v13]) ∧ StL a.c_Network a.tG_Network_init p c t an al nw m rows links H') ⟨⟨_, _, _, _, rfl⟩, hS'⟩ ?_ ?_
          · rintro i σ H5 hi ⟨⟨v10, v11, v12, v13, rfl⟩, hS5⟩
            simp only [tSeq, tAsg, tRet, tRetN, tDrop, tIfS, tNext, tNever, tOp, tUn, tVar, tC, rI0, rI, rU, tTest, tIf, tB, tAnd, tOr, tNot, tAndV, tOrV, tNotV, gName, gSub, gTupH, gCons, gNil, tYes, tCons, tNil, tLst, tTup, tCB, tCall, tMeth, tMake, tFld, sFld, tFor_c, tLc_c, iRng1, iList, iTup, iStr, iSeqB, iEnumB, tM1, tSl, tPart, tNoPart, rSlS, rIxS, tBM, rAppend, tIf, rEq, rNe, scal, hIx, hIxT, hIxB, hSet, hInt, hIntB, hLen, hLenT, hLenB, L2.start, wipe, List.map_cons, List.map_nil, List.set_cons_zero, List.set_cons_succ, List.set_nil, List.length_cons, List.length_nil, List.length_map, List.cons_append, List.nil_append, List.append_nil, List.replicate, List.getElem?_cons_zero, List.getElem?_cons_succ, Option.some.injEq, V.int.injEq, V.bl.injEq, V.ref.injEq, V.str.injEq, List.cons.injEq, exists_eq_left', exists_eq_left, exists_and_left, and_assoc, upd_same, upd_upd, HO.lst.injEq, HO.tup.injEq, atI_0, atI_1, atI_2, atI_3, set_1, set_2, set_3, CDiv, CPow, CMul, List.length_set, Int.reduceToNat, Int.reduceLE, Int.reduceLT, Int.reducePow, Int.reduceNeg, Nat.reduceAdd, Nat.reduceLT, Nat.reduceLeDiff, Nat.reducePow, Nat.zero_add, or_true, true_or, gt_iff_lt, ge_iff_le, and_true, true_and, decide_eq_true_eq, if_true, Bool.false_eq_true, if_false]
            refine ⟨p, c, S7, by unfold S7; rw [tx_lt], by decide +kernel, by decide +kernel, hS5.pool, fun l Ha hl hin ka pa => ?_⟩
            replace hS5 := hS5.off ka pa
            refine ⟨m, tx l, rfl, fun Hb sb => ⟨m, l, rfl, by omega, by omega, hl, hin, fun Hc sc => ⟨_, _, rfl, .bl 3 _, fun Hd sd => ⟨true, rfl, iteF ?_⟩⟩⟩⟩
            replace hS5 := ((hS5.same sb).same sc).same sd
            refine ⟨p, c, SN7, by unfold SN7; rw [tx_lt], by decide +kernel, by decide +kernel, hS5.pool, fun l2 He hl2 hin2 ke pe => ?_⟩
            replace hS5 := hS5.off ke pe
            obtain ⟨as5, C1, C2, _, _⟩ := hS5.row.2.1.ex
            have el5 : ((as5.map V.ref).length : Int) = (rows.length : Int) := by rw [List.length_map, C2]
            refine ⟨_, C1, ?_⟩
            rw [el5]
            refine ⟨_, tx l2, rfl, by show l2.length ≤ 1000; omega, _, C1, ?_⟩
            rw [el5]
            refine ⟨rows.length, l2, rfl, b6.2, hl2, _, _, rfl, .bl 3 _, fun Hf sf => ⟨true, rfl, iteF ⟨Nat.le_of_ble_eq_true rfl, ?_⟩⟩⟩
            (intro dd nd; generalize hG : upd _ dd _ = Hg; have sg := gen_same nd hG; have eg := gen_at hG; clear hG)
            replace hS5 := (hS5.same sf).same sg
            have C9 : Hg an = some (.lst (as5.map V.ref)) := sg _ _ (sf _ _ C1)
            have ch2 : ∀ y ∈ lt (tx l2), y < 1000 := fun y hy => Nat.lt_of_lt_of_le ((by decide +kernel : ∀ y ∈ SN7, y < 100) y (hin2 y hy)) (by decide)
            have ln2 : (tx l2).length ≤ 100 := by show l2.length ≤ 100; omega
            have sgo : (∀ y, tx l2 = tx [y] → ¬ y ∈ AN.take rows.length) → spNum a.c_Network [V.ref nw, V.str (tx l2)] Hg (fun x H1 => spSame 3 [x, V.ref dd] H1 (fun x H1 => ∃ c_3, x = V.bl c_3 ∧ if (!c_3) = true then Q (V.bl false) H1 else (∃ x, some (V.ref dd) = x) ∧ StL a.c_Network a.tG_Network_init p c t an al nw (m : Int) rows links H1) E0) E0 := by
              intro hno
              refine ⟨nw, m, rows, links, tx l2, rfl, hS5.net, b6.2, ln2, ch2, fun k y e1 e2 => absurd (List.mem_of_getElem? e2) (hno y e1), fun _ tt Hh sh et => ⟨_, _, rfl, SameD.two et (sh _ _ eg) (.str 2 _) (.bl 2 _), fun Hi si => ⟨true, rfl, iteF ⟨⟨_, rfl⟩, (hS5.same sh).same si⟩⟩⟩⟩
            refine ⟨_, rfl, sizeLe (by omega), ?_⟩
            refine ite2 (fun e1 => ?_) (fun e1 => ?_)
            · obtain ⟨y, ey⟩ := one_of (x := tx l2) (by exact_mod_cast e1)
              have ey2 := tx_inj ey
              subst ey2
              refine ⟨_, C9, by decide +kernel, y, rfl, ?_⟩
              rw [el5, cutAN b6.2, show (tx (AN.take rows.length)).cps.toList = AN.take rows.length from rfl]
              refine ite2 (fun hy => ?_) (fun hy => ?_)
              · obtain ⟨k, hk, ek⟩ := List.mem_iff_getElem.mp hy
                have ek' : (AN.take rows.length)[k]? = some y := by rw [List.getElem?_eq_getElem hk, ek]
                have hkL : k < rows.length := by
                  rw [List.length_take] at hk
                  omega
                have ek6 : (AN.take 6)[k]? = some y := by
                  rw [List.getElem?_take, if_pos (by omega)]
                  rw [List.getElem?_take, if_pos hkL] at ek'
                  exact ek'
                have z6 : Txt.index0 ("ABCDEF" : Str) (tx [y]) = some k := by
                  have z := idx_AN (L := 6) (Nat.le_refl _) ek6
                  rw [show tx (AN.take 6) = ("ABCDEF" : Str) from by decide +kernel] at z
                  exact z
                refine ⟨rfl, _, rfl, _, _, rfl, rfl, fun k2 e2 => ?_, fun e2 => ?_⟩
                · rw [z6] at e2
                  cases e2
                  refine ⟨nw, m, rows, links, tx [y], rfl, hS5.net, b6.2, ln2, ch2, fun k3 y3 e3 e4 => ?_, fun hno => absurd hy (hno y rfl)⟩
                  cases tx_inj e3
                  have hkk : k3 = k := by
                    have z1 := idx_AN b6.2 ek'
                    have z2 := idx_AN b6.2 e4
                    rw [z1] at z2
                    exact (Option.some.inj z2).symm
                  subst hkk
                  exact ⟨_, _, rfl, .int 3 _, fun Hi si => ⟨true, rfl, iteF ⟨⟨_, rfl⟩, hS5.same si⟩⟩⟩
                · rw [z6] at e2
                  cases e2
              · refine sgo fun y3 e3 => ?_
                cases tx_inj e3
                exact hy
            · refine sgo fun y3 e3 => ?_
              refine absurd ?_ e1
              rw [e3]
              rfl
          · rintro σ H5 ⟨⟨v10, v11, v12, v13, rfl⟩, hS5⟩
            simp only [tSeq, tAsg, tRet, tRetN, tDrop, tIfS, tNext, tNever, tOp, tUn, tVar, tC, rI0, rI, rU, tTest, tIf, tB, tAnd, tOr, tNot, tAndV, tOrV, tNotV, gName, gSub, gTupH, gCons, gNil, tYes, tCons, tNil, tLst, tTup, tCB, tCall, tMeth, tMake, tFld, sFld, tFor_c, tLc_c, iRng1, iList, iTup, iStr, iSeqB, iEnumB, tM1, tSl, tPart, tNoPart, rSlS, rIxS, tBM, rAppend, tIf, rEq, rNe, scal, hIx, hIxT, hIxB, hSet, hInt, hIntB, hLen, hLenT, hLenB, L2.start, wipe, List.map_cons, List.map_nil, List.set_cons_zero, List.set_cons_succ, List.set_nil, List.length_cons, List.length_nil, List.length_map, List.cons_append, List.nil_append, List.append_nil, List.replicate, List.getElem?_cons_zero, List.getElem?_cons_succ, Option.some.injEq, V.int.injEq, V.bl.injEq, V.ref.injEq, V.str.injEq, List.cons.injEq, exists_eq_left', exists_eq_left, exists_and_left, and_assoc, upd_same, upd_upd, HO.lst.injEq, HO.tup.injEq, atI_0, atI_1, atI_2, atI_3, set_1, set_2, set_3, CDiv, CPow, CMul, List.length_set, Int.reduceToNat, Int.reduceLE, Int.reduceLT, Int.reducePow, Int.reduceNeg, Nat.reduceAdd, Nat.reduceLT, Nat.reduceLeDiff, Nat.reducePow, Nat.zero_add, or_true, true_or, gt_iff_lt, ge_iff_le, and_true, true_and, decide_eq_true_eq, if_true, Bool.false_eq_true, if_false]
            exact ⟨p, c, t, an, al, m, rows, links, rfl, hS5.pool, hS5.row, hR, hS5.tab, hlk, q⟩
end
end AK
set_option Elab.async false
set_option linter.all false
set_option maxRecDepth 100000
set_option maxHeartbeats 0
namespace AK
open PySem PySem.Spec PyProof.Rows L2
theorem law_at {l : PySem.W.OpenLaw} {w : World} {K : PySem.W.Frag} {mg : Str → Option Value} {h : Heap} {fa : Addr} {a : Ads} (X : K.In h) (T : Txt K mg a) (ea : a.a_law = fa)
    (hh : PySem.W.codeHdIn K a.cG_Network_init a.tG_Network_init = true) (ht : h.get? a.tG_Network_init = some { cls := .none, data := .fields #[] }) (hn : K.lookup a.tG_Network_init = none) :
    LamX.LawAtS l w K CX0 8 63 "script" mg fa h := by
  subst ea
  have hc := PySem.W.codeHd_of_K X hh
  have one : ∀ {C : Addr × Addr → Prop}, C (a.cG_Network_init, a.tG_Network_init) → ∀ p ∈ [(a.cG_Network_init, a.tG_Network_init)], C p := fun z p hp => by
    rw [List.mem_singleton.mp hp]
    exact z
  refine ⟨a.d_law, [(a.cG_Network_init, a.tG_Network_init)], spLaw K a.tG_Network_init, one ht, one hn, one hc, ?_, ?_, ?_⟩
  · intro s u
    exact T.B_law s u
  · intro H b ns hl hb hH hS
    exact ⟨b, ns, rfl, hS, hl, hb, hH _ (List.mem_singleton.mpr rfl), fun _ => rfl⟩
  · intro base hb hg hT
    have z := hT _ (List.mem_singleton.mpr rfl)
    exact ok_law T ⟨z.code, z.bm, z.gP⟩
def dd_BadNetwork_init : He.DefD := ⟨("BadNetwork", some "__init__"), "__init__", "BadNetwork.__init__", defArgs s_BadNetwork_init, defBody s_BadNetwork_init, defScope s_BadNetwork_init, [], []⟩
def dd_Network_init : He.DefD := ⟨("Network", some "__init__"), "__init__", "Network.__init__", defArgs s_Network_init, defBody s_Network_init, defScope s_Network_init, [], []⟩
def dd_Network_node_letters : He.DefD := ⟨("Network", some "node_letters"), "node_letters", "Network.node_letters", defArgs s_Network_node_letters, defBody s_Network_node_letters, defScope s_Network_node_letters, [], []⟩
def dd_Network_variable_letters : He.DefD := ⟨("Network", some "variable_letters"), "variable_letters", "Network.variable_letters", defArgs s_Network_variable_letters, defBody s_Network_variable_letters, defScope s_Network_variable_letters, [], []⟩
def dd_Network_messages : He.DefD := ⟨("Network", some "messages"), "messages", "Network.messages", defArgs s_Network_messages, defBody s_Network_messages, defScope s_Network_messages, [], []⟩
def dd_Network_all_messages : He.DefD := ⟨("Network", some "all_messages"), "all_messages", "Network.all_messages", defArgs s_Network_all_messages, defBody s_Network_all_messages, defScope s_Network_all_messages, [], []⟩
def dd_is_message : He.DefD := ⟨("is_message", none), "is_message", "is_message", defArgs s_is_message, defBody s_is_message, defScope s_is_message, [], []⟩
def dd_is_link : He.DefD := ⟨("is_link", none), "is_link", "is_link", defArgs s_is_link, defBody s_is_link, defScope s_is_link, [], []⟩
def dd_node_number : He.DefD := ⟨("node_number", none), "node_number", "node_number", defArgs s_node_number, defBody s_node_number, defScope s_node_number, [], []⟩
def dd_first_letters : He.DefD := ⟨("first_letters", none), "first_letters", "first_letters", defArgs s_first_letters, defBody s_first_letters, defScope s_first_letters, [], []⟩
def dd_is_ascending : He.DefD := ⟨("is_ascending", none), "is_ascending", "is_ascending", defArgs s_is_ascending, defBody s_is_ascending, defScope s_is_ascending, [], []⟩
def dd_check_variables : He.DefD := ⟨("_check_variables", none), "_check_variables", "_check_variables", defArgs s_check_variables, defBody s_check_variables, defScope s_check_variables, [], []⟩
def dd_check_nodes : He.DefD := ⟨("_check_nodes", none), "_check_nodes", "_check_nodes", defArgs s_check_nodes, defBody s_check_nodes, defScope s_check_nodes, [], []⟩
def dd_check_links : He.DefD := ⟨("_check_links", none), "_check_links", "_check_links", defArgs s_check_links, defBody s_check_links, defScope s_check_links, [], []⟩
def dd_law_pool : He.DefD := ⟨("_law_pool", none), "_law_pool", "_law_pool", defArgs s_law_pool, defBody s_law_pool, defScope s_law_pool, [], []⟩
def dd_law_take : He.DefD := ⟨("_law_take", none), "_law_take", "_law_take", defArgs s_law_take, defBody s_law_take, defScope s_law_take, [], []⟩
def dd_law_message : He.DefD := ⟨("_law_message", none), "_law_message", "_law_message", defArgs s_law_message, defBody s_law_message, defScope s_law_message, [], []⟩
def dd_law_rows : He.DefD := ⟨("_law_rows", none), "_law_rows", "_law_rows", defArgs s_law_rows, defBody s_law_rows, defScope s_law_rows, [], []⟩
def dd_law_is_shown : He.DefD := ⟨("_law_is_shown", none), "_law_is_shown", "_law_is_shown", defArgs s_law_is_shown, defBody s_law_is_shown, defScope s_law_is_shown, [], []⟩
def dd_law_is_integer : He.DefD := ⟨("_law_is_integer", none), "_law_is_integer", "_law_is_integer", defArgs s_law_is_integer, defBody s_law_is_integer, defScope s_law_is_integer, [], []⟩
def dd_law_same : He.DefD := ⟨("_law_same", none), "_law_same", "_law_same", defArgs s_law_same, defBody s_law_same, defScope s_law_same, [], []⟩
def dd_law_told : He.DefD := ⟨("_law_told", none), "_law_told", "_law_told", defArgs s_law_told, defBody s_law_told, defScope s_law_told, [], []⟩
def dd_law_text : He.DefD := ⟨("_law_text", none), "_law_text", "_law_text", defArgs s_law_text, defBody s_law_text, defScope s_law_text, [], []⟩
def dd_law_is_message : He.DefD := ⟨("_law_is_message", none), "_law_is_message", "_law_is_message", defArgs s_law_is_message, defBody s_law_is_message, defScope s_law_is_message, [], []⟩
def dd_law_is_link : He.DefD := ⟨("_law_is_link", none), "_law_is_link", "_law_is_link", defArgs s_law_is_link, defBody s_law_is_link, defScope s_law_is_link, [], []⟩
def dd_law_number : He.DefD := ⟨("_law_number", none), "_law_number", "_law_number", defArgs s_law_number, defBody s_law_number, defScope s_law_number, [], []⟩
def dd_law_is_refused : He.DefD := ⟨("_law_is_refused", none), "_law_is_refused", "_law_is_refused", defArgs s_law_is_refused, defBody s_law_is_refused, defScope s_law_is_refused, [], []⟩
def dd_law : He.DefD := ⟨("law", none), "law", "law", defArgs s_law, defBody s_law, defScope s_law, [], []⟩
def fnL : List He.DefD := [dd_BadNetwork_init, dd_Network_init, dd_Network_node_letters, dd_Network_variable_letters, dd_Network_messages, dd_Network_all_messages, dd_is_message, dd_is_link, dd_node_number, dd_first_letters, dd_is_ascending, dd_check_variables, dd_check_nodes, dd_check_links, dd_law_pool, dd_law_take, dd_law_message, dd_law_rows, dd_law_is_shown, dd_law_is_integer, dd_law_same, dd_law_told, dd_law_text, dd_law_is_message, dd_law_is_link, dd_law_number, dd_law_is_refused, dd_law]
def faL : List He.Fa := [.mkr "Network",
  .meth "Network" "node_letters",
  .meth "Network" "variable_letters",
  .meth "Network" "messages",
  .meth "Network" "all_messages",
  .glo "is_message",
  .glo "is_link",
  .glo "node_number",
  .glo "first_letters",
  .glo "is_ascending",
  .glo "_check_variables",
  .glo "_check_nodes",
  .glo "_check_links",
  .glo "_law_pool",
  .glo "_law_take",
  .glo "_law_message",
  .glo "_law_rows",
  .glo "_law_is_shown",
  .glo "_law_is_integer",
  .glo "_law_same",
  .glo "_law_told",
  .glo "_law_text",
  .glo "_law_is_message",
  .glo "_law_is_link",
  .glo "_law_number",
  .glo "_law_is_refused",
  .glo "law",
  .cls "Network",
  .glo "Network",
  .noat "Network" "variables",
  .noat "Network" "nodes",
  .noat "Network" "links",
  .glo "KnowError",
  .glo "BadNetwork",
  .glo "NoNode",
  .exc "NoNode",
  .str "VARIABLE_LETTERS" "abcdefghijklmnopqrstuvwxyz",
  .str "NODE_LETTERS" "ABCDEFGHIJKLMNOPQRSTUVWXYZ",
  .int "MOST_VARIABLES" 6,
  .int "MOST_NODES" 6,
  .int "MOST_MESSAGES" 4,
  .int "MOST_LINKS" 16,
  .free "len",
  .free "int",
  .free "max",
  .free "range",
  .free "tuple",
  .free "list",
  .free "isinstance",
  .free "enumerate",
  .free "all",
  .free "bool",
  .free "str",
  .free "ValueError"]
def exL (K : PySem.W.Frag) : List Bool := [He.eqO (PySem.W.findIn K (.ref (He.ga K "BadNetwork")) "__init__") (some (some (.ref (He.ma K (He.ga K "BadNetwork") "__init__")))),
  decide (PySem.W.typeIn K (.ref (He.ma K (He.ga K "BadNetwork") "__init__")) = some (.type "function")),
  excB K (He.ga K "BadNetwork"),
  decide (PySem.W.kitOne K (.ref (He.ga K "BadNetwork")) (.ref (He.ga K "KnowError")) = some true),
  decide (PySem.W.kitOne K (.ref (He.ga K "BadNetwork")) (.type "ValueError") = some true),
  oexB K (He.ga K "BadNetwork"),
  He.eqO (PySem.W.findIn K (.ref (He.ga K "BadNetwork")) "part") (some none),
  He.eqO (PySem.W.findIn K (.ref (He.ga K "BadNetwork")) "number") (some none),
  He.eqO (PySem.W.findIn K (.ref (He.ga K "BadNetwork")) "reason") (some none),
  excB K (He.ga K "NoNode"),
  decide (PySem.W.kitOne K (.ref (He.ga K "NoNode")) (.ref (He.ga K "KnowError")) = some true)]
def exB (K : PySem.W.Frag) : Bool := (exL K).all id
abbrev R0 : PySem.W.OpenRow := PySem.W.OpenLaw.row PySem.Challenge.rw_allknow_k01_networks
def tfL : List He.Defn := [("Network", some "__init__")]
abbrev hkX : PySem.W.Hook := He.hookX 6 faL fnL [] tfL exB
def obX (s : PySem.W.SharedT) : He.AlX := He.obsX 6 faL fnL [] tfL exB (HandSHeadRun.getT s)
theorem obX_eq (s : PySem.W.SharedT) : obX s = hkX.obs s.abs := He.obsX_eq (HandSHeadRun.getT_eq s)
def looseL : List PySem.Str := ["__name__", "KnowError", "VARIABLE_LETTERS", "NODE_LETTERS", "MOST_VARIABLES", "MOST_NODES", "MOST_MESSAGES", "MOST_LINKS", "BadNetwork", "NoNode", "Network", "is_message", "is_link", "node_number", "first_letters", "is_ascending", "_check_variables", "_check_nodes", "_check_links", "_law_pool", "_law_take", "_law_message", "_law_rows", "_law_is_shown", "_law_is_integer", "_law_same", "_law_told", "_law_text", "_law_is_message", "_law_is_link", "_law_number", "_law_is_refused"]
theorem runX (w : World) : HandSHeadRun.RunEq R0 (PySem.W.view R0.prog [34]) hkX obX 2500 looseL w := by
  intro os
  kernel_rfl
theorem txt_of {K : PySem.W.Frag} {h : Heap} {mg : Str → Option Value} {w : World} (X : K.In h) (G : h.Ns mainGlobals mg) (c : He.SaysX faL fnL [] tfL exB w h K) :
    ∃ a : Ads, Txt K mg a ∧ a.a_law = He.ga K "law" ∧ a.cG_Network_init = (He.cT K ("Network", some "__init__")).1 ∧ a.tG_Network_init = (He.cT K ("Network", some "__init__")).2 := by
  have hx : ∀ (i : Nat) {b : Bool}, (exL K)[i]? = some b → b = true := fun i b e => List.all_eq_true.mp c.more b (List.mem_of_getElem? e)
  obtain ⟨fd_BadNetwork_init, FD_BadNetwork_init⟩ := c.t.d.def_ 0 (d := dd_BadNetwork_init) rfl
  have F_BadNetwork_init : Fun K "__init__" "BadNetwork.__init__" s_BadNetwork_init (He.fAd K ("BadNetwork", some "__init__")) fd_BadNetwork_init := fun_of FD_BadNetwork_init
  have b_BadNetwork_init := F_BadNetwork_init.binds (ps := ["self", "part", "number", "reason"]) fun _ _ _ _ _ _ us hl => match us, hl with | [_, _, _, _], _ => rfl
  obtain ⟨fd_Network_init, FD_Network_init⟩ := c.t.d.def_ 1 (d := dd_Network_init) rfl
  have F_Network_init : Fun K "__init__" "Network.__init__" s_Network_init (He.fAd K ("Network", some "__init__")) fd_Network_init := fun_of FD_Network_init
  have b_Network_init := F_Network_init.binds (ps := ["self", "variables", "nodes", "links"]) fun _ _ _ _ _ _ us hl => match us, hl with | [_, _, _, _], _ => rfl
  obtain ⟨fd_Network_node_letters, FD_Network_node_letters⟩ := c.t.d.def_ 2 (d := dd_Network_node_letters) rfl
  have F_Network_node_letters : Fun K "node_letters" "Network.node_letters" s_Network_node_letters (He.fAd K ("Network", some "node_letters")) fd_Network_node_letters := fun_of FD_Network_node_letters
  have b_Network_node_letters := F_Network_node_letters.binds (ps := ["self"]) fun _ _ _ _ _ _ us hl => match us, hl with | [_], _ => rfl
  obtain ⟨fd_Network_variable_letters, FD_Network_variable_letters⟩ := c.t.d.def_ 3 (d := dd_Network_variable_letters) rfl
  have F_Network_variable_letters : Fun K "variable_letters" "Network.variable_letters" s_Network_variable_letters (He.fAd K ("Network", some "variable_letters")) fd_Network_variable_letters := fun_of FD_Network_variable_letters
  have b_Network_variable_letters := F_Network_variable_letters.binds (ps := ["self"]) fun _ _ _ _ _ _ us hl => match us, hl with | [_], _ => rfl
  obtain ⟨fd_Network_messages, FD_Network_messages⟩ := c.t.d.def_ 4 (d := dd_Network_messages) rfl
  have F_Network_messages : Fun K "messages" "Network.messages" s_Network_messages (He.fAd K ("Network", some "messages")) fd_Network_messages := fun_of FD_Network_messages
  have b_Network_messages := F_Network_messages.binds (ps := ["self", "node"]) fun _ _ _ _ _ _ us hl => match us, hl with | [_, _], _ => rfl
  obtain ⟨fd_Network_all_messages, FD_Network_all_messages⟩ := c.t.d.def_ 5 (d := dd_Network_all_messages) rfl
  have F_Network_all_messages : Fun K "all_messages" "Network.all_messages" s_Network_all_messages (He.fAd K ("Network", some "all_messages")) fd_Network_all_messages := fun_of FD_Network_all_messages
  have b_Network_all_messages := F_Network_all_messages.binds (ps := ["self"]) fun _ _ _ _ _ _ us hl => match us, hl with | [_], _ => rfl
  obtain ⟨fd_is_message, FD_is_message⟩ := c.t.d.def_ 6 (d := dd_is_message) rfl
  have F_is_message : Fun K "is_message" "is_message" s_is_message (He.fAd K ("is_message", none)) fd_is_message := fun_of FD_is_message
  have b_is_message := F_is_message.binds (ps := ["variables", "text"]) fun _ _ _ _ _ _ us hl => match us, hl with | [_, _], _ => rfl
  obtain ⟨fd_is_link, FD_is_link⟩ := c.t.d.def_ 7 (d := dd_is_link) rfl
  have F_is_link : Fun K "is_link" "is_link" s_is_link (He.fAd K ("is_link", none)) fd_is_link := fun_of FD_is_link
  have b_is_link := F_is_link.binds (ps := ["nodes", "text"]) fun _ _ _ _ _ _ us hl => match us, hl with | [_, _], _ => rfl
  obtain ⟨fd_node_number, FD_node_number⟩ := c.t.d.def_ 8 (d := dd_node_number) rfl
  have F_node_number : Fun K "node_number" "node_number" s_node_number (He.fAd K ("node_number", none)) fd_node_number := fun_of FD_node_number
  have b_node_number := F_node_number.binds (ps := ["network", "node"]) fun _ _ _ _ _ _ us hl => match us, hl with | [_, _], _ => rfl
  obtain ⟨fd_first_letters, FD_first_letters⟩ := c.t.d.def_ 9 (d := dd_first_letters) rfl
  have F_first_letters : Fun K "first_letters" "first_letters" s_first_letters (He.fAd K ("first_letters", none)) fd_first_letters := fun_of FD_first_letters
  have b_first_letters := F_first_letters.binds (ps := ["letters", "count"]) fun _ _ _ _ _ _ us hl => match us, hl with | [_, _], _ => rfl
  obtain ⟨fd_is_ascending, FD_is_ascending⟩ := c.t.d.def_ 10 (d := dd_is_ascending) rfl
  have F_is_ascending : Fun K "is_ascending" "is_ascending" s_is_ascending (He.fAd K ("is_ascending", none)) fd_is_ascending := fun_of FD_is_ascending
  have b_is_ascending := F_is_ascending.binds (ps := ["letters", "text"]) fun _ _ _ _ _ _ us hl => match us, hl with | [_, _], _ => rfl
  obtain ⟨fd_check_variables, FD_check_variables⟩ := c.t.d.def_ 11 (d := dd_check_variables) rfl
  have F_check_variables : Fun K "_check_variables" "_check_variables" s_check_variables (He.fAd K ("_check_variables", none)) fd_check_variables := fun_of FD_check_variables
  have b_check_variables := F_check_variables.binds (ps := ["variables"]) fun _ _ _ _ _ _ us hl => match us, hl with | [_], _ => rfl
  obtain ⟨fd_check_nodes, FD_check_nodes⟩ := c.t.d.def_ 12 (d := dd_check_nodes) rfl
  have F_check_nodes : Fun K "_check_nodes" "_check_nodes" s_check_nodes (He.fAd K ("_check_nodes", none)) fd_check_nodes := fun_of FD_check_nodes
  have b_check_nodes := F_check_nodes.binds (ps := ["variables", "nodes"]) fun _ _ _ _ _ _ us hl => match us, hl with | [_, _], _ => rfl
  obtain ⟨fd_check_links, FD_check_links⟩ := c.t.d.def_ 13 (d := dd_check_links) rfl
  have F_check_links : Fun K "_check_links" "_check_links" s_check_links (He.fAd K ("_check_links", none)) fd_check_links := fun_of FD_check_links
  have b_check_links := F_check_links.binds (ps := ["nodes", "links"]) fun _ _ _ _ _ _ us hl => match us, hl with | [_, _], _ => rfl
  obtain ⟨fd_law_pool, FD_law_pool⟩ := c.t.d.def_ 14 (d := dd_law_pool) rfl
  have F_law_pool : Fun K "_law_pool" "_law_pool" s_law_pool (He.fAd K ("_law_pool", none)) fd_law_pool := fun_of FD_law_pool
  have b_law_pool := F_law_pool.binds (ps := ["script"]) fun _ _ _ _ _ _ us hl => match us, hl with | [_], _ => rfl
  obtain ⟨fd_law_take, FD_law_take⟩ := c.t.d.def_ 15 (d := dd_law_take) rfl
  have F_law_take : Fun K "_law_take" "_law_take" s_law_take (He.fAd K ("_law_take", none)) fd_law_take := fun_of FD_law_take
  have b_law_take := F_law_take.binds (ps := ["pool", "many"]) fun _ _ _ _ _ _ us hl => match us, hl with | [_, _], _ => rfl
  obtain ⟨fd_law_message, FD_law_message⟩ := c.t.d.def_ 16 (d := dd_law_message) rfl
  have F_law_message : Fun K "_law_message" "_law_message" s_law_message (He.fAd K ("_law_message", none)) fd_law_message := fun_of FD_law_message
  have b_law_message := F_law_message.binds (ps := ["pool", "variables"]) fun _ _ _ _ _ _ us hl => match us, hl with | [_, _], _ => rfl
  obtain ⟨fd_law_rows, FD_law_rows⟩ := c.t.d.def_ 17 (d := dd_law_rows) rfl
  have F_law_rows : Fun K "_law_rows" "_law_rows" s_law_rows (He.fAd K ("_law_rows", none)) fd_law_rows := fun_of FD_law_rows
  have b_law_rows := F_law_rows.binds (ps := ["pool", "high", "most"]) fun _ _ _ _ _ _ us hl => match us, hl with | [_, _, _], _ => rfl
  obtain ⟨fd_law_is_shown, FD_law_is_shown⟩ := c.t.d.def_ 18 (d := dd_law_is_shown) rfl
  have F_law_is_shown : Fun K "_law_is_shown" "_law_is_shown" s_law_is_shown (He.fAd K ("_law_is_shown", none)) fd_law_is_shown := fun_of FD_law_is_shown
  have b_law_is_shown := F_law_is_shown.binds (ps := ["network", "rows"]) fun _ _ _ _ _ _ us hl => match us, hl with | [_, _], _ => rfl
  obtain ⟨fd_law_is_integer, FD_law_is_integer⟩ := c.t.d.def_ 19 (d := dd_law_is_integer) rfl
  have F_law_is_integer : Fun K "_law_is_integer" "_law_is_integer" s_law_is_integer (He.fAd K ("_law_is_integer", none)) fd_law_is_integer := fun_of FD_law_is_integer
  have b_law_is_integer := F_law_is_integer.binds (ps := ["actual"]) fun _ _ _ _ _ _ us hl => match us, hl with | [_], _ => rfl
  obtain ⟨fd_law_same, FD_law_same⟩ := c.t.d.def_ 20 (d := dd_law_same) rfl
  have F_law_same : Fun K "_law_same" "_law_same" s_law_same (He.fAd K ("_law_same", none)) fd_law_same := fun_of FD_law_same
  have b_law_same := F_law_same.binds (ps := ["actual", "due"]) fun _ _ _ _ _ _ us hl => match us, hl with | [_, _], _ => rfl
  obtain ⟨fd_law_told, FD_law_told⟩ := c.t.d.def_ 21 (d := dd_law_told) rfl
  have F_law_told : Fun K "_law_told" "_law_told" s_law_told (He.fAd K ("_law_told", none)) fd_law_told := fun_of FD_law_told
  have b_law_told := F_law_told.binds (ps := ["variables", "nodes", "links"]) fun _ _ _ _ _ _ us hl => match us, hl with | [_, _, _], _ => rfl
  obtain ⟨fd_law_text, FD_law_text⟩ := c.t.d.def_ 22 (d := dd_law_text) rfl
  have F_law_text : Fun K "_law_text" "_law_text" s_law_text (He.fAd K ("_law_text", none)) fd_law_text := fun_of FD_law_text
  have b_law_text := F_law_text.binds (ps := ["pool", "letters"]) fun _ _ _ _ _ _ us hl => match us, hl with | [_, _], _ => rfl
  obtain ⟨fd_law_is_message, FD_law_is_message⟩ := c.t.d.def_ 23 (d := dd_law_is_message) rfl
  have F_law_is_message : Fun K "_law_is_message" "_law_is_message" s_law_is_message (He.fAd K ("_law_is_message", none)) fd_law_is_message := fun_of FD_law_is_message
  have b_law_is_message := F_law_is_message.binds (ps := ["variables", "text"]) fun _ _ _ _ _ _ us hl => match us, hl with | [_, _], _ => rfl
  obtain ⟨fd_law_is_link, FD_law_is_link⟩ := c.t.d.def_ 24 (d := dd_law_is_link) rfl
  have F_law_is_link : Fun K "_law_is_link" "_law_is_link" s_law_is_link (He.fAd K ("_law_is_link", none)) fd_law_is_link := fun_of FD_law_is_link
  have b_law_is_link := F_law_is_link.binds (ps := ["nodes", "text"]) fun _ _ _ _ _ _ us hl => match us, hl with | [_, _], _ => rfl
  obtain ⟨fd_law_number, FD_law_number⟩ := c.t.d.def_ 25 (d := dd_law_number) rfl
  have F_law_number : Fun K "_law_number" "_law_number" s_law_number (He.fAd K ("_law_number", none)) fd_law_number := fun_of FD_law_number
  have b_law_number := F_law_number.binds (ps := ["network", "text"]) fun _ _ _ _ _ _ us hl => match us, hl with | [_, _], _ => rfl
  obtain ⟨fd_law_is_refused, FD_law_is_refused⟩ := c.t.d.def_ 26 (d := dd_law_is_refused) rfl
  have F_law_is_refused : Fun K "_law_is_refused" "_law_is_refused" s_law_is_refused (He.fAd K ("_law_is_refused", none)) fd_law_is_refused := fun_of FD_law_is_refused
  have b_law_is_refused := F_law_is_refused.binds (ps := ["pool", "rows"]) fun _ _ _ _ _ _ us hl => match us, hl with | [_, _], _ => rfl
  obtain ⟨fd_law, FD_law⟩ := c.t.d.def_ 27 (d := dd_law) rfl
  have F_law : Fun K "law" "law" s_law (He.fAd K ("law", none)) fd_law := fun_of FD_law
  have b_law := F_law.binds (ps := ["script"]) fun _ _ _ _ _ _ us hl => match us, hl with | [_], _ => rfl
  have B_law := FunD.bindsA (ps := ["script"]) FD_law fun _ _ _ _ _ _ us hl => match us, hl with | [_], _ => rfl
  obtain ⟨t_VARIABLE_LETTERS, m_VARIABLE_LETTERS⟩ := He.str_ok X G (c.t.d.fact 36 (f := .str "VARIABLE_LETTERS" "abcdefghijklmnopqrstuvwxyz") rfl)
  obtain ⟨t_NODE_LETTERS, m_NODE_LETTERS⟩ := He.str_ok X G (c.t.d.fact 37 (f := .str "NODE_LETTERS" "ABCDEFGHIJKLMNOPQRSTUVWXYZ") rfl)
  obtain ⟨t_MOST_VARIABLES, m_MOST_VARIABLES⟩ := He.int_ok X G (c.t.d.fact 38 (f := .int "MOST_VARIABLES" 6) rfl)
  obtain ⟨t_MOST_NODES, m_MOST_NODES⟩ := He.int_ok X G (c.t.d.fact 39 (f := .int "MOST_NODES" 6) rfl)
  obtain ⟨t_MOST_MESSAGES, m_MOST_MESSAGES⟩ := He.int_ok X G (c.t.d.fact 40 (f := .int "MOST_MESSAGES" 4) rfl)
  obtain ⟨t_MOST_LINKS, m_MOST_LINKS⟩ := He.int_ok X G (c.t.d.fact 41 (f := .int "MOST_LINKS" 16) rfl)
  exact ⟨⟨He.fAd K ("BadNetwork", some "__init__"), fd_BadNetwork_init, He.fAd K ("Network", some "__init__"), fd_Network_init, (He.cT K ("Network", some "__init__")).1, (He.cT K ("Network", some "__init__")).2, He.fAd K ("Network", some "node_letters"), fd_Network_node_letters, He.fAd K ("Network", some "variable_letters"), fd_Network_variable_letters, He.fAd K ("Network", some "messages"), fd_Network_messages, He.fAd K ("Network", some "all_messages"), fd_Network_all_messages, He.fAd K ("is_message", none), fd_is_message, He.fAd K ("is_link", none), fd_is_link, He.fAd K ("node_number", none), fd_node_number, He.fAd K ("first_letters", none), fd_first_letters, He.fAd K ("is_ascending", none), fd_is_ascending, He.fAd K ("_check_variables", none), fd_check_variables, He.fAd K ("_check_nodes", none), fd_check_nodes, He.fAd K ("_check_links", none), fd_check_links, He.fAd K ("_law_pool", none), fd_law_pool, He.fAd K ("_law_take", none), fd_law_take, He.fAd K ("_law_message", none), fd_law_message, He.fAd K ("_law_rows", none), fd_law_rows, He.fAd K ("_law_is_shown", none), fd_law_is_shown, He.fAd K ("_law_is_integer", none), fd_law_is_integer, He.fAd K ("_law_same", none), fd_law_same, He.fAd K ("_law_told", none), fd_law_told, He.fAd K ("_law_text", none), fd_law_text, He.fAd K ("_law_is_message", none), fd_law_is_message, He.fAd K ("_law_is_link", none), fd_law_is_link, He.fAd K ("_law_number", none), fd_law_number, He.fAd K ("_law_is_refused", none), fd_law_is_refused, He.fAd K ("law", none), fd_law, He.ga K "Network", He.ga K "KnowError", He.ga K "BadNetwork", He.ga K "NoNode", t_VARIABLE_LETTERS, t_NODE_LETTERS, t_MOST_VARIABLES, t_MOST_NODES, t_MOST_MESSAGES, t_MOST_LINKS⟩, ⟨F_BadNetwork_init,
    b_BadNetwork_init,
    He.eqO_ok (hx 0 rfl),
    of_decide_eq_true (hx 1 rfl),
    F_Network_init,
    b_Network_init,
    funC_of (p := ("Network", some "__init__")) FD_Network_init,
    He.mkr_ok (c.t.d.fact 0 (f := .mkr "Network") rfl),
    F_Network_node_letters,
    b_Network_node_letters,
    He.meth_ok (c.t.d.fact 1 (f := .meth "Network" "node_letters") rfl),
    F_Network_variable_letters,
    b_Network_variable_letters,
    He.meth_ok (c.t.d.fact 2 (f := .meth "Network" "variable_letters") rfl),
    F_Network_messages,
    b_Network_messages,
    He.meth_ok (c.t.d.fact 3 (f := .meth "Network" "messages") rfl),
    F_Network_all_messages,
    b_Network_all_messages,
    He.meth_ok (c.t.d.fact 4 (f := .meth "Network" "all_messages") rfl),
    F_is_message,
    b_is_message,
    He.glo_ok X G (c.t.d.fact 5 (f := .glo "is_message") rfl),
    F_is_link,
    b_is_link,
    He.glo_ok X G (c.t.d.fact 6 (f := .glo "is_link") rfl),
    F_node_number,
    b_node_number,
    He.glo_ok X G (c.t.d.fact 7 (f := .glo "node_number") rfl),
    F_first_letters,
    b_first_letters,
    He.glo_ok X G (c.t.d.fact 8 (f := .glo "first_letters") rfl),
    F_is_ascending,
    b_is_ascending,
    He.glo_ok X G (c.t.d.fact 9 (f := .glo "is_ascending") rfl),
    F_check_variables,
    b_check_variables,
    He.glo_ok X G (c.t.d.fact 10 (f := .glo "_check_variables") rfl),
    F_check_nodes,
    b_check_nodes,
    He.glo_ok X G (c.t.d.fact 11 (f := .glo "_check_nodes") rfl),
    F_check_links,
    b_check_links,
    He.glo_ok X G (c.t.d.fact 12 (f := .glo "_check_links") rfl),
    F_law_pool,
    b_law_pool,
    He.glo_ok X G (c.t.d.fact 13 (f := .glo "_law_pool") rfl),
    F_law_take,
    b_law_take,
    He.glo_ok X G (c.t.d.fact 14 (f := .glo "_law_take") rfl),
    F_law_message,
    b_law_message,
    He.glo_ok X G (c.t.d.fact 15 (f := .glo "_law_message") rfl),
    F_law_rows,
    b_law_rows,
    He.glo_ok X G (c.t.d.fact 16 (f := .glo "_law_rows") rfl),
    F_law_is_shown,
    b_law_is_shown,
    He.glo_ok X G (c.t.d.fact 17 (f := .glo "_law_is_shown") rfl),
    F_law_is_integer,
    b_law_is_integer,
    He.glo_ok X G (c.t.d.fact 18 (f := .glo "_law_is_integer") rfl),
    F_law_same,
    b_law_same,
    He.glo_ok X G (c.t.d.fact 19 (f := .glo "_law_same") rfl),
    F_law_told,
    b_law_told,
    He.glo_ok X G (c.t.d.fact 20 (f := .glo "_law_told") rfl),
    F_law_text,
    b_law_text,
    He.glo_ok X G (c.t.d.fact 21 (f := .glo "_law_text") rfl),
    F_law_is_message,
    b_law_is_message,
    He.glo_ok X G (c.t.d.fact 22 (f := .glo "_law_is_message") rfl),
    F_law_is_link,
    b_law_is_link,
    He.glo_ok X G (c.t.d.fact 23 (f := .glo "_law_is_link") rfl),
    F_law_number,
    b_law_number,
    He.glo_ok X G (c.t.d.fact 24 (f := .glo "_law_number") rfl),
    F_law_is_refused,
    b_law_is_refused,
    He.glo_ok X G (c.t.d.fact 25 (f := .glo "_law_is_refused") rfl),
    F_law,
    b_law,
    fun s u => B_law s [u] rfl,
    He.glo_ok X G (c.t.d.fact 26 (f := .glo "law") rfl),
    He.cls_ok (c.t.d.fact 27 (f := .cls "Network") rfl),
    He.glo_ok X G (c.t.d.fact 28 (f := .glo "Network") rfl),
    He.noat_ok (c.t.d.fact 29 (f := .noat "Network" "variables") rfl),
    He.noat_ok (c.t.d.fact 30 (f := .noat "Network" "nodes") rfl),
    He.noat_ok (c.t.d.fact 31 (f := .noat "Network" "links") rfl),
    He.glo_ok X G (c.t.d.fact 32 (f := .glo "KnowError") rfl),
    He.glo_ok X G (c.t.d.fact 33 (f := .glo "BadNetwork") rfl),
    (excB_ok (hx 2 rfl)),
    of_decide_eq_true (hx 3 rfl),
    of_decide_eq_true (hx 4 rfl),
    oexB_ok (hx 5 rfl) (excB_ok (hx 2 rfl)),
    He.eqO_ok (hx 6 rfl),
    He.eqO_ok (hx 7 rfl),
    He.eqO_ok (hx 8 rfl),
    He.glo_ok X G (c.t.d.fact 34 (f := .glo "NoNode") rfl),
    (excB_ok (hx 9 rfl)),
    of_decide_eq_true (hx 10 rfl),
    (He.exc_ok (c.t.d.fact 35 (f := .exc "NoNode") rfl)).1,
    m_VARIABLE_LETTERS,
    m_NODE_LETTERS,
    m_MOST_VARIABLES,
    m_MOST_NODES,
    m_MOST_MESSAGES,
    m_MOST_LINKS,
    He.free_ok X G (c.t.d.fact 42 (f := .free "len") rfl),
    He.free_ok X G (c.t.d.fact 43 (f := .free "int") rfl),
    He.free_ok X G (c.t.d.fact 44 (f := .free "max") rfl),
    He.free_ok X G (c.t.d.fact 45 (f := .free "range") rfl),
    He.free_ok X G (c.t.d.fact 46 (f := .free "tuple") rfl),
    He.free_ok X G (c.t.d.fact 47 (f := .free "list") rfl),
    He.free_ok X G (c.t.d.fact 48 (f := .free "isinstance") rfl),
    He.free_ok X G (c.t.d.fact 49 (f := .free "enumerate") rfl),
    He.free_ok X G (c.t.d.fact 50 (f := .free "all") rfl),
    He.free_ok X G (c.t.d.fact 51 (f := .free "bool") rfl),
    He.free_ok X G (c.t.d.fact 52 (f := .free "str") rfl),
    He.free_ok X G (c.t.d.fact 53 (f := .free "ValueError") rfl)⟩, rfl, rfl, rfl⟩
theorem law_atX {l : PySem.W.OpenLaw} {w : World} {K : PySem.W.Frag} {h : Heap} {mg : Str → Option Value} {fa : Addr} (X : K.In h) (G : h.Ns mainGlobals mg) (hmg : mg "law" = some (.ref fa)) (c : He.SaysX faL fnL [] tfL exB w h K) :
    LamX.LawAtS l w K CX0 8 63 "script" mg fa h := by
  obtain ⟨a, T, ea, e1_Network_init, e2_Network_init⟩ := txt_of X G c
  have e : He.ga K "law" = fa := by
    have z := He.glo_ok X G (c.t.d.fact 26 (f := .glo "law") rfl)
    rw [hmg] at z
    cases z
    rfl
  refine law_at X T (ea.trans e) ?_ ?_ ?_
  · rw [e1_Network_init, e2_Network_init]
    exact c.hd ("Network", some "__init__") (by unfold tfL; simp)
  · rw [e2_Network_init]
    exact c.empty ("Network", some "__init__") (by unfold tfL; simp)
  · rw [e2_Network_init]
    exact c.out ("Network", some "__init__") (by unfold tfL; simp)
end AK
open PySem PySem.W PySem.Calls PyProof.Rows
set_option maxRecDepth 100000 in
set_option maxHeartbeats 0 in
theorem PySem.Challenge.cw_allknow_k01_networks_holds : PySem.Challenge.rw_allknow_k01_networks.Holds := by
  w_on; o_law
  refine HandSHeadRun.head_any (r := OpenLaw.row PySem.Challenge.rw_allknow_k01_networks) (q := view (OpenLaw.row PySem.Challenge.rw_allknow_k01_networks).prog [34]) (H := AK.hkX) (ob := AK.obX) (M := 2500) (loose := AK.looseL) (d := HandSHeadRun.topDef (OpenLaw.row PySem.Challenge.rw_allknow_k01_networks).prog 34) (kwd := []) AK.obX_eq
    (by kernel_rfl) (fun s => by kernel_rfl) AK.runX (by kernel_rfl) (by kernel_rfl) (by kernel_rfl) (by rfl) (by first | assumption | decide +kernel) (by decide +kernel) ⟨rfl, rfl, rfl, rfl, rfl, by decide +kernel⟩ ?hw ?hc
  case hw => w_witness2
  case hc =>
    refine LamX.walk_ofTsE (l := PySem.Challenge.rw_allknow_k01_networks) (n := 63) (k := 8) (x := "script") (CX := fun _ => L2.CX0) rfl (by decide) (by kernel_rfl) ⟨rfl, by decide, by decide⟩ ?F (fun _ _ _ _ _ z => z)
    intro w mg fa h Y G hmg0
    obtain ⟨K, KX, c⟩ := Y
    have hmg : mg ("law" : PySem.Str) = some (.ref fa) := by
      have e : (HandSHeadRun.topDef (OpenLaw.row PySem.Challenge.rw_allknow_k01_networks).prog 34).name = ("law" : PySem.Str) := by kernel_rfl
      rw [← e]
      exact hmg0
    exact ⟨K, KX, AK.law_atX KX G hmg c⟩
