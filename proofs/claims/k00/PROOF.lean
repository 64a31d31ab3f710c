import PyProof.Rows.All
import HandS.ForMost
import HandS.Exc
import HandS.Conv
import HandS.TupAny
import HandS.TupMul
import HandS.Deep
import HandS.IsInst
import HandS.Walk
import HandS.SortInts
import HandS.TupLe
import HandS.Lambda
import HandS.ExcOwn
import HandS.Flow
import HandS.Gcd
import HandS.RaiseMore
import HandS.Iter
import HandS.Style
import HandS.Zip
import KE.GoesMore
import HandS.Star
import HandS.TryMany
import HandS.ExcInit
import HandS.ExcField
import HandS.ExcIs
import KE.KExcIs
import KE.KTypeName
import HandS.HeadWalk
import HandS.HeadHook4
import HandS.Head2
import HandS.Head3
import PyProof.ReprBulk
import PySem.Challenge.RW_byhalves_k00_books_made_and_refused
set_option Elab.async false
set_option linter.all false
/-! Bx1: tuples times 1 and times numbers not above 0; any, all over tuples and lists of numbers. -/
namespace Bh
set_option maxRecDepth 100000
set_option maxHeartbeats 4000000
section
open PySem PySem.Spec PyProof.Rows L2
theorem tup_mul1 (l : Addr) (items : Array Value) (n : Nat) (dd : Option Addr) (sl : Array (Option Value)) (x : Int) (u : Tok) (c0 : (decide (x < -(2 ^ 63)) || decide (x ≥ 2 ^ 63)) = false) (c1 : (items.isEmpty || x == 1) = true) :
    Meets (Builtin.«tuple.__mul__» ⟨[.ref l, .int x u], []⟩) (fun _ R s => s.heap.get? l = some { cls := .type "tuple", dict := dd, data := .seq items n, slots := sl } ∧ R (.ok (.ret (Value.ref l))) s) :=
  .of_wp fun prog w A R s h => by
    obtain ⟨hp, g, d, tk, os⟩ := s
    obtain ⟨hl, h⟩ := h
    have f1 := AutoSeq1.idx_int
    wp_walk using wpAny_loadPart' hl
    repeat (first
      | (refine wpAny_ite_false (decide_eq_false (by rw [c0]; exact Bool.false_ne_true)) ?_; wp_walk using wpAny_loadPart' hl)
      | (refine wpAny_ite_true (decide_eq_true c1) ?_; wp_walk using wpAny_loadPart' hl))
    all_goals exact ⟨_, rfl, h⟩
theorem tup_mul0 (l : Addr) (items : Array Value) (n : Nat) (dd : Option Addr) (sl : Array (Option Value)) (x : Int) (u : Tok) (c0 : (decide (x < -(2 ^ 63)) || decide (x ≥ 2 ^ 63)) = false) (c1 : (items.isEmpty || x == 1) = false) (c2 : (decide (x ≤ 0) || items.isEmpty) = true) :
    Meets (Builtin.«tuple.__mul__» ⟨[.ref l, .int x u], []⟩) (fun _ R s => s.heap.get? l = some { cls := .type "tuple", dict := dd, data := .seq items n, slots := sl } ∧
      R (.ok (.ret (Value.ref s.heap.objs.size))) { s with heap := s.heap.push { cls := Value.type "tuple", data := Data.seq #[] }, toks := s.toks }) :=
  .of_wp fun prog w A R s h => by
    obtain ⟨hp, g, d, tk, os⟩ := s
    obtain ⟨hl, h⟩ := h
    have f1 := AutoSeq1.idx_int
    wp_walk using wpAny_loadPart' hl
    repeat (first
      | (refine wpAny_ite_false (decide_eq_false (by rw [c0]; exact Bool.false_ne_true)) ?_; wp_walk using wpAny_loadPart' hl)
      | (refine wpAny_ite_false (decide_eq_false (by rw [c1]; exact Bool.false_ne_true)) ?_; wp_walk using wpAny_loadPart' hl)
      | (refine wpAny_ite_true (decide_eq_true c2) ?_; wp_walk using wpAny_loadPart' hl))
    all_goals exact ⟨_, rfl, h⟩
/-- a tuple times 1, times what is not above 0 -/
def rRepS (K : PySem.W.Frag) : R2 := fun x y H Q => ∃ l k xs, x = .ref l ∧ y = .int k ∧ SqT K H l xs ∧ ((k = 1 ∧ Q (.ref l) H) ∨ (xs ≠ [] ∧ -1000 ≤ k ∧ k ≤ 0 ∧ ∀ p, H p = none → Q (.ref p) (upd H p (.tup []))))
theorem op_repS {X : Cx} : OpR X (binaryOp .Mult) (rRepS X.K) := by
  intro pins s σ H x y v u Q I rx ry h
  obtain ⟨l, k, xs, rfl, rfl, hT, q⟩ := h
  cases rx
  obtain ⟨t, rfl⟩ := ry
  obtain ⟨its, r, ⟨⟨cls, dd, data, sl⟩, ho, hc, n, hd⟩, hs⟩ := I.tuple hT
  simp only at hc hd
  subst hc hd
  have hle : its.length = xs.length := r.length.symm
  rcases q with ⟨rfl, q⟩ | ⟨hne, k0, k1, q⟩
  · exact wpAny_binaryOp_repeat_ref (T := "tuple") (U := "int") (by decide) ⟨_, ho, rfl⟩ (fun s' => typeIs_int s' 1 t) noFill_tuple_mul F.fills_int_mul F.slot_int_rmul repeat_tuple F.slot_int_index.lookup
      (call_meets F.slot_int_rmul (typeIs_int s 1 t) F.entry_int_rmul (F.args_int_rmul_2 _ _) (int_rmul_tuple 1 t l its.toArray n dd sl)
        ⟨ho, rfl, ⟨_, ho, rfl⟩, call_meets F.slot_tuple_mul ⟨_, ho, rfl⟩ F.entry_tuple_mul (F.args_tuple_mul_2 _ _) (tup_mul1 l its.toArray n dd sl 1 t (by decide) (by simp)) ⟨ho, ⟨.ref l, H, I, rfl, q⟩⟩⟩)
  · have hn : its ≠ [] := fun e => hne (by
      rw [e] at hle
      exact List.eq_nil_of_length_eq_zero hle.symm)
    have hi : its.toArray.isEmpty = false := by
      cases its with
      | nil => exact absurd rfl hn
      | cons a b => rfl
    have c0 : (decide (k < -(2 ^ 63)) || decide (k ≥ 2 ^ 63)) = false := by
      rw [decide_eq_false (by omega), decide_eq_false (by omega)] <;> rfl
    have c1 : (its.toArray.isEmpty || k == 1) = false := by
      rw [hi, Bool.false_or]
      exact beq_eq_false_iff_ne.mpr (by omega)
    have c2 : (decide (k ≤ 0) || its.toArray.isEmpty) = true := by
      rw [decide_eq_true k1, Bool.true_or]
    refine wpAny_binaryOp_repeat_ref (T := "tuple") (U := "int") (by decide) ⟨_, ho, rfl⟩ (fun s' => typeIs_int s' k t) noFill_tuple_mul F.fills_int_mul F.slot_int_rmul repeat_tuple F.slot_int_index.lookup
      (call_meets F.slot_int_rmul (typeIs_int s k t) F.entry_int_rmul (F.args_int_rmul_2 _ _) (int_rmul_tuple k t l its.toArray n dd sl)
        ⟨ho, rfl, ⟨_, ho, rfl⟩, call_meets F.slot_tuple_mul ⟨_, ho, rfl⟩ F.entry_tuple_mul (F.args_tuple_mul_2 _ _) (tup_mul0 l its.toArray n dd sl k t c0 c1 c2) ⟨ho, ?_⟩⟩)
    refine ⟨.ref s.heap.objs.size, _, I.laid (t' := s.toks) (o := .tup []) (fun b ob q => Heap.get?_push_of_some _ q) (Nat.le_refl _) ?_, rfl, q _ (I.hok.fresh (Nat.le_refl _))⟩
    exact ⟨Nat.zero_le _, [], .nil, IsTup.new _ _⟩
/-- the truths of numbers and bools -/
def truS : V → Option Bool
  | .int i => some (i != 0)
  | .bl b => some b
  | .non => some false
  | _ => none
theorem truth_flat {prog : Program} {w : World} {A : Around} {vs : List V} {bs : List Bool} {its : List Value} (r : Vals vs its) (e : vs.map truS = bs.map some) :
    TruthOf prog w A (fun i v => its.toArray[i]? = some v) (fun i => bs.getD i false) := fun i v s Q E hv hq => by
  have hv' : its[i]? = some v := by simpa using hv
  have hq' : Q (bs.getD i false) s := hq
  have hlen := r.length
  have hi : i < its.length := (List.getElem?_eq_some_iff.mp hv').1
  have hi2 : i < vs.length := by rw [hlen]; exact hi
  have hx : vs[i]? = some vs[i] := List.getElem?_eq_getElem hi2
  obtain ⟨u, h1, h2⟩ := r.get hx
  rw [hv'] at h1
  cases h1
  have hb : truS vs[i] = some (bs.getD i false) := by
    have := congrArg (fun l => l[i]?) e
    simp only [List.getElem?_map, hx, Option.map_some] at this
    cases h : bs[i]? with
    | none => rw [h] at this; cases this
    | some b =>
      rw [h] at this
      simp only [Option.map_some, Option.some.injEq] at this
      rw [this, List.getD_eq_getElem?_getD, h]
      rfl
  generalize hx' : vs[i] = x at h2 hb
  cases x with
  | int n =>
    obtain ⟨tk, rfl⟩ := (show ∃ t, v = Value.int n t from h2)
    simp only [truS, Option.some.injEq] at hb
    rw [← hb] at hq'
    exact PySem.P.truthy_int hq'
  | bl b =>
    cases (show v = Value.bool b from h2)
    simp only [truS, Option.some.injEq] at hb
    rw [← hb] at hq'
    exact wpAny_truthy_bool hq'
  | non =>
    cases (show v = Value.none from h2)
    simp only [truS, Option.some.injEq] at hb
    rw [← hb] at hq'
    exact PyProof.Rows.truthy_none hq'
  | _ => cases hb
def rAnyS (K : PySem.W.Frag) : List V → Hp → VK → Prop := fun vs H Q => ∃ (a : Addr) (xs : List V) (bs : List Bool), vs = [V.ref a] ∧ (SqL K H a xs ∨ SqT K H a xs) ∧ xs.map truS = bs.map some ∧ Q (.bl (bs.any id)) H
def rAllS (K : PySem.W.Frag) : List V → Hp → VK → Prop := fun vs H Q => ∃ (a : Addr) (xs : List V) (bs : List Bool), vs = [V.ref a] ∧ (SqL K H a xs ∨ SqT K H a xs) ∧ xs.map truS = bs.map some ∧ Q (.bl (bs.all id)) H
theorem cr_anyS {X : Cx} (hc : X.calm = true) : CallR X (.builtin "any") (rAnyS X.K) := by
  intro pins s σ H vs us Q I r h
  obtain ⟨a, xs, bs, rfl, hs, hb, q⟩ := h
  rw [Vals.ref1 r]
  have hlen : xs.length = bs.length := by simpa using congrArg List.length hb
  rcases hs with hs | hs
  · obtain ⟨its, rv, hl, _⟩ := I.list hs
    refine call_any_walk (iter_any hl.isList fun s₂ e2 st hne => ?_)
    subst e2
    refine ⟨_, _, _, _, _, _, _, rfl, Walks.list (A := X.A.in1) (I.ok.hd hc) _ a hne its.toArray, st, truth_flat rv hb, fun h' tk hk => ?_⟩
    refine ⟨.bl _, H, I.kept fun b o eo => hk b o (fun hmem => ?_) (Heap.get?_push_of_some _ eo), ?_, q⟩
    · rcases List.mem_cons.mp hmem with e1 | hmem
      · exact absurd (e1 ▸ Heap.lt_size eo) (Nat.lt_irrefl _)
      · cases hmem
    · show Value.bool _ = Value.bool _
      rw [← L2.any_range, List.size_toArray, ← rv.length, hlen]
  · obtain ⟨its, rv, hl, _⟩ := I.tuple hs
    have hlt : a < s.heap.objs.size := by obtain ⟨_, e, _⟩ := hl; exact Heap.lt_size e
    refine call_any_walk (wpAny_pyIter_tuple hl ?_)
    refine ⟨_, _, _, _, _, _, _, rfl, Walks.tuple (A := X.A.in1) (I.ok.hd hc) _ a (Nat.ne_of_lt hlt) its.toArray, ⟨⟨_, Heap.get?_push_size _ rfl, rfl, rfl⟩, hl.push _⟩, truth_flat rv hb, fun h' tk hk => ?_⟩
    refine ⟨.bl _, H, I.kept fun b o eo => hk b o (fun hmem => ?_) (Heap.get?_push_of_some _ eo), ?_, q⟩
    · rcases List.mem_cons.mp hmem with e1 | hmem
      · exact absurd (e1 ▸ Heap.lt_size eo) (Nat.lt_irrefl _)
      · cases hmem
    · show Value.bool _ = Value.bool _
      rw [← L2.any_range, List.size_toArray, ← rv.length, hlen]
theorem cr_allS {X : Cx} (hc : X.calm = true) : CallR X (.builtin "all") (rAllS X.K) := by
  intro pins s σ H vs us Q I r h
  obtain ⟨a, xs, bs, rfl, hs, hb, q⟩ := h
  rw [Vals.ref1 r]
  have hlen : xs.length = bs.length := by simpa using congrArg List.length hb
  rcases hs with hs | hs
  · obtain ⟨its, rv, hl, _⟩ := I.list hs
    refine call_all_walk (iter_any hl.isList fun s₂ e2 st hne => ?_)
    subst e2
    refine ⟨_, _, _, _, _, _, _, rfl, Walks.list (A := X.A.in1) (I.ok.hd hc) _ a hne its.toArray, st, truth_flat rv hb, fun h' tk hk => ?_⟩
    refine ⟨.bl _, H, I.kept fun b o eo => hk b o (fun hmem => ?_) (Heap.get?_push_of_some _ eo), ?_, q⟩
    · rcases List.mem_cons.mp hmem with e1 | hmem
      · exact absurd (e1 ▸ Heap.lt_size eo) (Nat.lt_irrefl _)
      · cases hmem
    · show Value.bool _ = Value.bool _
      rw [← L2.all_range, List.size_toArray, ← rv.length, hlen]
  · obtain ⟨its, rv, hl, _⟩ := I.tuple hs
    have hlt : a < s.heap.objs.size := by obtain ⟨_, e, _⟩ := hl; exact Heap.lt_size e
    refine call_all_walk (wpAny_pyIter_tuple hl ?_)
    refine ⟨_, _, _, _, _, _, _, rfl, Walks.tuple (A := X.A.in1) (I.ok.hd hc) _ a (Nat.ne_of_lt hlt) its.toArray, ⟨⟨_, Heap.get?_push_size _ rfl, rfl, rfl⟩, hl.push _⟩, truth_flat rv hb, fun h' tk hk => ?_⟩
    refine ⟨.bl _, H, I.kept fun b o eo => hk b o (fun hmem => ?_) (Heap.get?_push_of_some _ eo), ?_, q⟩
    · rcases List.mem_cons.mp hmem with e1 | hmem
      · exact absurd (e1 ▸ Heap.lt_size eo) (Nat.lt_irrefl _)
      · cases hmem
    · show Value.bool _ = Value.bool _
      rw [← L2.all_range, List.size_toArray, ← rv.length, hlen]
end
end Bh

set_option Elab.async false
set_option linter.all false
/-! Bx2: sorted of tuples of numbers of any lengths, the first of them empty. -/
namespace Bh
set_option maxRecDepth 100000
set_option maxHeartbeats 4000000
/-- as Python compares tuples of numbers -/
def lexI : List Int → List Int → Bool
  | _, [] => false
  | [], _ :: _ => true
  | a :: l, b :: r => if a = b then lexI l r else decide (a < b)
theorem lexI_irr : ∀ l, lexI l l = false
  | [] => rfl
  | a :: l => by simp [lexI, lexI_irr l]
theorem lexI_asym : ∀ l r, lexI l r = true → lexI r l = false
  | l, [], h => by cases l <;> simp [lexI] at h
  | [], b :: r, _ => rfl
  | a :: l, b :: r, h => by
    simp only [lexI] at h ⊢
    by_cases e : a = b
    · rw [if_pos e] at h
      rw [if_pos e.symm]
      exact lexI_asym l r h
    · rw [if_neg e] at h
      rw [if_neg fun z => e z.symm]
      have := of_decide_eq_true h
      exact decide_eq_false (by omega)
theorem lexI_tr : ∀ l r t, lexI r l = false → lexI t r = false → lexI t l = false
  | [], r, t, _, _ => by cases t <;> rfl
  | a :: l, [], t, h, _ => by simp [lexI] at h
  | a :: l, b :: r, [], _, h => by simp [lexI] at h
  | a :: l, b :: r, c :: t, h1, h2 => by
    simp only [lexI] at h1 h2 ⊢
    by_cases e1 : b = a
    · subst e1
      rw [if_pos rfl] at h1
      by_cases e2 : c = b
      · rw [if_pos e2] at h2 ⊢
        exact lexI_tr l r t h1 h2
      · rw [if_neg e2] at h2 ⊢
        exact h2
    · rw [if_neg e1] at h1
      have q1 := of_decide_eq_false h1
      by_cases e2 : c = b
      · subst e2
        rw [if_neg e1]
        exact h1
      · rw [if_neg e2] at h2
        have q2 := of_decide_eq_false h2
        rw [if_neg (by omega)]
        exact decide_eq_false (by omega)
theorem lexI_anti : ∀ l r, lexI l r = false → lexI r l = false → l = r
  | [], [], _, _ => rfl
  | [], b :: r, h, _ => by simp [lexI] at h
  | a :: l, [], _, h => by simp [lexI] at h
  | a :: l, b :: r, h1, h2 => by
    simp only [lexI] at h1 h2
    by_cases e : a = b
    · subst e
      rw [if_pos rfl] at h1 h2
      rw [lexI_anti l r h1 h2]
    · rw [if_neg e] at h1
      rw [if_neg fun z => e z.symm] at h2
      have q1 := of_decide_eq_false h1
      have q2 := of_decide_eq_false h2
      omega
section
open PySem PySem.Spec PyProof.Rows L2
theorem swo_lexI {α : Type} (k : α → List Int) : SrtO.Swo fun x y => lexI (k x) (k y) := ⟨fun _ _ h => lexI_asym _ _ h, fun _ _ _ h1 h2 => lexI_tr _ _ _ h1 h2⟩
/-- a tuple of these numbers -/
def TupI (h : Heap) (v : Value) (ns : List Int) : Prop := ∃ a its, v = .ref a ∧ h.IsTuple a (List.toArray its) ∧ IntsAre its ns
theorem TupI.keeps {h h' : Heap} {v : Value} {ns : List Int} (t : TupI h v ns) (k : ∀ b o, h.get? b = some o → o.cls = .type "tuple" → h'.get? b = some o) : TupI h' v ns := by
  obtain ⟨a, its, e, ⟨o, q1, q2, q3⟩, r⟩ := t
  exact ⟨a, its, e, ⟨o, k a o q1 q2, q2, q3⟩, r⟩
theorem ints_at : ∀ {its : List Value} {ns : List Int}, IntsAre its ns → its.length = ns.length ∧ ∀ (j : Nat) (x : Value), its[j]? = some x → ∃ n t, x = .int n t ∧ ns[j]? = some n
  | _, _, .nil => ⟨rfl, fun j x h => by simp at h⟩
  | _, _, .cons n t r => by
    obtain ⟨h1, h2⟩ := ints_at r
    refine ⟨by simp [h1], fun j x h => ?_⟩
    cases j with
    | zero => simp at h; exact ⟨n, t, h.symm, rfl⟩
    | succ j => exact h2 j x (by simpa using h)
theorem lexAt_lexI : ∀ (ns ms : List Int) (e r : Nat → Bool) (i : Nat), (∀ j n m, ns[j]? = some n → ms[j]? = some m → e (i + j) = decide (n = m) ∧ r (i + j) = decide (n < m)) →
    Ob.lexAt e r (decide (ns.length < ms.length)) i (min ns.length ms.length) = lexI ns ms
  | [], [], e, r, i, _ => by simp [Ob.lexAt, lexI]
  | [], b :: ms, e, r, i, _ => by simp [Ob.lexAt, lexI]
  | a :: ns, [], e, r, i, _ => by simp [Ob.lexAt, lexI]
  | a :: ns, b :: ms, e, r, i, h => by
    obtain ⟨h1, h2⟩ := h 0 a b rfl rfl
    have ih := lexAt_lexI ns ms e r (i + 1) fun j n m q1 q2 => by
      have := h (j + 1) n m (by simpa using q1) (by simpa using q2)
      rwa [show i + (j + 1) = i + 1 + j by omega] at this
    rw [show min (a :: ns).length (b :: ms).length = min ns.length ms.length + 1 by simp only [List.length_cons]; omega, Ob.lexAt_succ]
    rw [Nat.add_zero] at h1 h2
    rw [h1, h2]
    simp only [lexI, decide_eq_true_eq]
    by_cases e : a = b
    · rw [if_pos e, if_pos e, ← ih]
      simp
    · rw [if_neg e, if_neg e]
section
variable {prog : Program} {w : World} {A : Around} {E : Value → Shared → Prop} {s : Shared}
theorem one_tup {v u : Value} {ns ms : List Int} {Q : Bool → Shared → Prop} (h1 : TupI s.heap v ns) (h2 : TupI s.heap u ms) (hu : A.units + 2 < cLine) (h : Q (lexI ns ms) s) : wpAny (model prog w) A (oneLt' true v u) Q E s := by
  obtain ⟨a, xs, rfl, hx, rx⟩ := h1
  obtain ⟨b, ys, rfl, hy, ry⟩ := h2
  obtain ⟨lx, ax⟩ := ints_at rx
  obtain ⟨ly, ay⟩ := ints_at ry
  have T1 : s.TypeIs (.ref a) "tuple" := by
    obtain ⟨o, q1, q2, _⟩ := hx
    exact ⟨o, q1, q2⟩
  obtain ⟨⟨cls, dd, data, sl⟩, ho, hc, n, hd⟩ := id hx
  obtain ⟨⟨cls2, dd2, data2, sl2⟩, ho2, hc2, n2, hd2⟩ := id hy
  simp only at hc hd hc2 hd2
  subst hc hd hc2 hd2
  rw [oneLt'_eq]
  simp only [if_true]
  refine wpAny_bind (wpAny_cRoomFor (by omega) ?_)
  refine wpAny_bind (wpAny_callSpecialIfBound?_slot T1 F.slot_tuple_lt (call_meets F.slot_tuple_lt T1 F.entry_tuple_lt (F.args_tuple_lt_2 _ _)
    (Ob.tuple_ltAt a b xs.toArray ys.toArray n n2 dd dd2 sl sl2 (fun j => decide (ns[j]? = ms[j]?)) (fun j => decide ((ns[j]?).getD 0 < (ms[j]?).getD 0))) ⟨ho, ho2, fun j q1 q2 => ?_, fun j q1 q2 _ => ?_, ?_⟩))
  · obtain ⟨p, t, e1, f1⟩ := ax j xs.toArray[j] (by simp)
    obtain ⟨q, u, e2, f2⟩ := ay j ys.toArray[j] (by simp)
    rw [e1, e2]
    have z : decide (ns[j]? = ms[j]?) = decide (p = q) := by
      rw [f1, f2]
      simp
    rw [z]
    exact PySem.SeqAt.EqAt.int_int p t q u
  · obtain ⟨p, t, e1, f1⟩ := ax j xs.toArray[j] (by simp)
    obtain ⟨q, u, e2, f2⟩ := ay j ys.toArray[j] (by simp)
    rw [e1, e2, f1, f2]
    exact Ob.RcOp.lt_int p q t u
  · have z := lexAt_lexI ns ms (fun j => decide (ns[j]? = ms[j]?)) (fun j => decide ((ns[j]?).getD 0 < (ms[j]?).getD 0)) 0 fun j n m q1 q2 => by
      simp only [Nat.zero_add, q1, q2]
      refine ⟨by simp, rfl⟩
    have z1 : xs.toArray.size = ns.length := by simpa using lx
    have z2 : ys.toArray.size = ms.length := by simpa using ly
    simp only [z1, z2, z]
    exact wpAny_truthy_bool h
/-- the kind of comparison, where the first key is an empty tuple -/
theorem tup_firsts {M : Model} : ∀ (vs : List Value) {Q : List (Option Value) → Shared → Prop}, (∀ v ∈ vs, ∃ ns, TupI s.heap v ns) → (∀ fs : List (Option Value), (∀ v, vs.head? = some v → TupI s.heap v [] → fs.head? = some none) → fs.length = vs.length → Q fs s) → wpAny M A (vs.mapM firstOfTuple') Q E s
  | [], Q, _, h => by
    rw [List.mapM_nil]
    exact wpAny_pure (h [] (fun v e => by cases e) rfl)
  | v :: vs, Q, t, h => by
    obtain ⟨ns, a, its, rfl, ⟨o, ho, hc, n, hd⟩, r⟩ := t v (List.mem_cons_self ..)
    rw [List.mapM_cons]
    refine wpAny_bind ?_
    rw [PySem.W.kas_first_eq]
    refine wpAny_bind (PySem.W.Looks.here (show PySem.W.Looks M s.heap (typeOf (.ref a)) o.cls from (PySem.W.Looks.ld ho).andThen .now) ?_)
    rw [hc, if_neg (by first | decide | simp)]
    refine wpAny_bind (listItems_at ho hd (wpAny_pure ?_))
    refine wpAny_bind (tup_firsts vs (fun u hu => t u (List.mem_cons_of_mem _ hu)) fun fs _ hl => wpAny_pure (h _ (fun u e z => ?_) (by simp [hl])))
    cases e
    obtain ⟨a', its', e', ⟨o', ho', hc', n', hd'⟩, r'⟩ := z
    cases e'
    rw [ho] at ho'
    cases ho'
    rw [hd] at hd'
    cases hd'
    cases r'
    rfl
theorem kind_first {M : Model} {v : Value} {vs : List Value} {Q : SortKind → Shared → Prop} (h0 : TupI s.heap v []) (ht : ∀ u ∈ v :: vs, ∃ ns, TupI s.heap u ns) (h : Q oneType' s) : wpAny M A (keyKind' (v :: vs).toArray) Q E s := by
  rw [PyProof.Rows.kat_kind_eq, List.mapM_toArray, map_eq_pure_bind]
  refine wpAny_bind (wpAny_bind (tup_firsts (v :: vs) ht fun fs hf hl => wpAny_pure ?_))
  have e0 := hf v rfl h0
  match fs, e0 with
  | f :: fr, e0 =>
    cases e0
    rw [if_neg (by simp), if_neg (by simp)]
    rw [oneTypeOnly'_eq, List.mapM_toArray, map_eq_pure_bind]
    refine wpAny_bind (wpAny_bind (wpAny_bind (PySem.W.kas_mapM (r := Value.type "tuple") _ (fun u hu Q' hq => ?_) (wpAny_pure ?_))))
    · obtain ⟨ns, a, its, rfl, ⟨o, ho, hc, n, hd⟩, r⟩ := ht u hu
      exact PySem.W.Looks.here (show PySem.W.Looks M s.heap (typeOf (.ref a)) (Value.type "tuple") from by rw [← hc]; exact (PySem.W.Looks.ld ho).andThen .now) hq
    · have hall2 : ((List.map (fun _ => Value.type "tuple") (v :: vs)).toArray.all fun x => x == Value.type "tuple") = true := by
        simp only [List.all_toArray, List.all_map, List.all_eq_true]
        intro _ _
        rfl
      have h0 : (List.map (fun _ => Value.type "tuple") (v :: vs)).toArray[0]? = some (Value.type "tuple") := by simp
      rw [h0]
      simp only [hall2, if_true]
      exact wpAny_pure (wpAny_pure h)
theorem tup_sortable {a : Addr} {vs : List Value} {k : Value → List Int} (hu : A.units + 2 < cLine) (hp : ∀ v ∈ vs, TupI s.heap v (k v)) (h0 : ∀ v, vs.head? = some v → k v = []) (h2 : 2 ≤ vs.length) (ha : ∀ o, s.heap.get? a = some o → o.cls ≠ .type "tuple") : SrtO.SortableO prog w A s a vs fun v u => lexI (k v) (k u) := by
  intro h' keep
  have hp' : ∀ v ∈ vs, TupI h' v (k v) := fun v hm => (hp v hm).keeps fun b o e c => keep b o (fun z => by subst z; exact ha o e c) e
  match vs, h2, h0, hp' with
  | v :: vs, h2, h0, hp' =>
    refine ⟨oneType', fun Q E hq => kind_first (s := { s with heap := h' }) ?_ (fun u hu => ⟨_, hp' u hu⟩) hq, ?_⟩
    · have := hp' v (List.mem_cons_self ..)
      rw [h0 v rfl] at this
      exact this
    · intro p q hm hm'
      show wpAny (model prog w) A (keyLt' oneType' p.1 q.1) (fun r s' => s' = { s with heap := h' } ∧ r = lexI (k p.1) (k q.1)) (fun _ _ => False) { s with heap := h' }
      rw [keyLt'_oneType]
      exact one_tup (s := { s with heap := h' }) (hp' _ hm) (hp' _ hm') hu ⟨rfl, rfl⟩
end
/-- sorted(ys): tuples of numbers -/
def rSortTI (K : PySem.W.Frag) : List V → Hp → VK → Prop := fun vs H Q => ∃ (a : Addr) (ys : List V) (k : V → List Int), vs = [V.ref a] ∧ SqL K H a ys ∧ (∀ y ∈ ys, ∃ t, y = V.ref t ∧ SqT K H t ((k y).map V.int)) ∧ (2 ≤ ys.length → ∀ y, ys.head? = some y → k y = []) ∧
  ∀ (zs : List V) (p : Addr), zs.Perm ys → zs.Pairwise (fun x y => lexI (k y) (k x) = false) → H p = none → Q (.ref p) (upd H p (.lst zs))
theorem cr_sortTI {X : Cx} (hu : X.A.units + 80 < cLine) : CallR X (.builtin "sorted") (rSortTI X.K) := by
  intro pins s σ H vs us Q I r h
  obtain ⟨a, ys, k, rfl, hs, hx, h0, q⟩ := h
  obtain ⟨its, rv, hl, hz⟩ := I.list hs
  rw [Vals.ref1 r]
  obtain ⟨e1, e2⟩ := refs_back rv fun x m => by
    obtain ⟨t, e, _⟩ := hx x m
    exact ⟨t, e⟩
  have hp : ∀ v ∈ its, TupI s.heap v (k (backV v)) := fun v hv => by
    obtain ⟨t, rfl⟩ := e2 v hv
    have hm : V.ref t ∈ ys := by rw [e1]; exact List.mem_map.mpr ⟨_, hv, rfl⟩
    obtain ⟨t', e, ht⟩ := hx _ hm
    cases e
    obtain ⟨us2, r2, hu2, _⟩ := I.tuple ht
    exact ⟨t, us2, rfl, hu2, r2.ints⟩
  have len : its.length = ys.length := by rw [e1, List.length_map]
  refine SrtO.sorted_ord (swo_lexI fun u => k (backV u)) hl.isList (by rw [len]; exact hz) (fun h2 h₁ a' ha' keep => ?_) fun out h1 h2 => ?_
  · refine tup_sortable (s := { s with heap := h₁ }) (k := fun u => k (backV u)) (by show X.A.units + 1 + 1 + 2 < cLine; omega) (fun v hv => (hp v hv).keeps fun b o e _ => (keep b o e).2) (fun v e => ?_) h2 fun o e c => ?_
    · refine h0 (by rw [← len]; exact h2) _ ?_
      rw [e1, List.head?_map, e]
      rfl
    · rw [ha'] at e
      cases e
      exact absurd (Value.type.inj c) (by decide)
  · have h3 : ∀ u ∈ out, ∃ a, u = Value.ref a := fun u hu => e2 u (h2.perm.mem_iff.mp hu)
    obtain ⟨ep, he'⟩ := PyProof.Rows.sortedAll_at s.heap its out.toArray
    have pm : (out.map backV).Perm ys := by
      rw [e1]
      exact h2.perm.map backV
    have hlen : (out.map backV).length ≤ sizeLine := by
      rw [pm.length_eq]
      exact hz
    exact ⟨.ref _, upd H (s.heap.objs.size + 1) (.lst (out.map backV)), I.laid (t' := s.toks) (fun _ _ => PyProof.Rows.sortedAll_old) (Nat.le_succ _) ⟨hlen, out, ep, vals_back h3, he'⟩, rfl, q _ _ pm (List.pairwise_map.mpr h1) (I.hok.fresh (Nat.le_succ _))⟩
end
end Bh

set_option Elab.async false
set_option linter.all false
/-! Bh: a small language over plain data, its evaluator (what a def of the program does, told as a function). -/
namespace Bh
open PySem

/-- plain data: what never changes stands as itself, what changes stands in the store -/
inductive D where
  | non | bl (b : Bool) | int (i : Int) | str (s : Str) | tup (l : List D) | lst (l : List D) | frz (l : List D) | ref (n : Nat) | exc (c : Nat) (w : D) | lam
  deriving Inhabited
inductive O where
  | lst (l : List D)
  | ins (c : Nat) (fs : List (Str × D))
  deriving Inhabited
abbrev Sto := List O
abbrev Env := List (Option D)
inductive R (α : Type) where
  | ok (a : α) (S : Sto) | exn (c : Nat) (w : D) (S : Sto) | bad
def R.bind {α β : Type} (r : R α) (f : α → Sto → R β) : R β := match r with
  | .ok a S => f a S
  | .exn c w S => .exn c w S
  | .bad => .bad
@[simp] theorem R.bind_ok {α β : Type} (a : α) (S : Sto) (f : α → Sto → R β) : (R.ok a S).bind f = f a S := rfl
@[simp] theorem R.bind_exn {α β : Type} (c : Nat) (w : D) (S : Sto) (f : α → Sto → R β) : (R.exn c w S : R α).bind f = .exn c w S := rfl
@[simp] theorem R.bind_bad {α β : Type} (f : α → Sto → R β) : (R.bad : R α).bind f = .bad := rfl
/-- an exception may not leave here -/
def R.nox {α : Type} : R α → R α
  | .exn _ _ _ => .bad
  | r => r
@[simp] theorem R.nox_ok {α : Type} (a : α) (S : Sto) : (R.ok a S).nox = .ok a S := rfl
@[simp] theorem R.nox_bad {α : Type} : (R.bad : R α).nox = .bad := rfl
@[simp] theorem R.nox_exn {α : Type} (c : Nat) (w : D) (S : Sto) : (R.exn c w S : R α).nox = .bad := rfl
def opt {α : Type} (o : Option α) (S : Sto) : R α := match o with
  | some a => .ok a S
  | none => .bad
@[simp] theorem opt_some {α : Type} (a : α) (S : Sto) : opt (some a) S = .ok a S := rfl
@[simp] theorem opt_none {α : Type} (S : Sto) : opt (none : Option α) S = .bad := rfl
abbrev Thk := Sto → R D

inductive BOp | add | sub | mul | fdiv | mod | pow
  deriving DecidableEq
inductive COp | eq | ne | lt | le | gt | ge | isin | notin | is_ | isnot
  deriving DecidableEq
inductive Ty | int | bool | str | tuple | list
  deriving DecidableEq
/-- built-in calls -/
inductive Bf | len | int | str | abs | max2 | min2 | tuple | list | listM | sum | maxL | minL | sorted | any | all | repr | gcd | isI (t : Ty)
  deriving DecidableEq
inductive Tg | nm (i : Nat) | tp (l : List Nat) | tp2 (i : Nat) (l : List Nat)
  deriving DecidableEq
mutual
inductive Ex where
  | var (i : Nat) | int (i : Int) | bl (b : Bool) | non | str (s : Str) | glob (g : Nat)
  | bin (op : BOp) (a b : Ex) | neg (a : Ex)
  | cmp (op : COp) (a b : Ex) | chain (o1 o2 : COp) (a b c : Ex)
  | and_ (l : Exs) | or_ (l : Exs) | not (a : Ex)
  | ife (c a b : Ex)
  | call (f : Nat) (l : Exs)
  | callB (b : Bf) (l : Exs)
  | tup (l : Exs) | tupS (a : Ex) (l : Exs) | lst (l : Exs) | cell (l : Exs)
  | ix (a i : Ex) | slLo (a lo : Ex) | slHi (a hi : Ex) | slLH (a lo hi : Ex) | rev (a : Ex)
  | comp (mut_ : Bool) (elt : Ex) (tg : Tg) (it : It) (conds : Exs)
  | compc (mut_ : Bool) (elt : Ex) (tg : Tg) (i : Nat) (conds : Exs)
  | comp2 (mut_ : Bool) (elt : Ex) (tg : Tg) (it : It) (conds : Exs) (tg1 : Tg) (it1 : It) (conds1 : Exs)
  | lamcall (f : Nat) (e : Ex) | act (i : Nat)
  | append (a e : Ex)
  | what (i : Nat) | isX (i c : Nat)
inductive Exs where
  | nil | cons (a : Ex) (l : Exs)
inductive It where
  | seq (e : Ex) | range1 (a : Ex) | range2 (a b : Ex) | range3 (a b c : Ex) | enum (e : Ex) | zip2 (a b : Ex)
end
mutual
inductive Sm where
  | expr (e : Ex) | asg (t : Tg) (e : Ex) | par (l : List Nat) (e : Exs)
  | setIx (a i e : Ex)
  | if_ (c : Ex) (t e : Sms) | for_ (t : Tg) (it : It) (b : Sms) | while_ (c : Ex) (b : Sms)
  | forc (t : Tg) (i : Nat) (b : Sms)
  | ret (e : Ex) | retN | raise (c : Nat) (e : Ex) | try_ (b : Sms) (h : Hds) | pass
inductive Sms where
  | nil | cons (a : Sm) (l : Sms)
/-- except C as slot: suite -/
inductive Hds where
  | nil | cons (c : Nat) (i : Option Nat) (b : Sms) (l : Hds)
end
structure Def where
  name : Str
  N : List Str
  np : Nat
  body : Sms
structure Prg where
  defs : List Def
  cls : List Str
  sub : List (List Bool)
  globs : List (Str × Int)

/-! ### operations on data -/
mutual
def toP : D → Option PyData
  | .non => some .none
  | .bl b => some (.bool b)
  | .int i => some (.int i)
  | .str s => some (.str s)
  | .tup l => (toPs l).map .tuple
  | .lst l => (toPs l).map .list
  | .frz l => (toPs l).map .list
  | _ => none
def toPs : List D → Option (List PyData)
  | [] => some []
  | a :: l => match toP a, toPs l with
    | some p, some ps => some (p :: ps)
    | _, _ => none
end
def truthy : D → Sto → Option Bool
  | .non, _ => some false
  | .bl b, _ => some b
  | .int i, _ => some (i != 0)
  | .tup l, _ => some (!l.isEmpty)
  | .lst l, _ => some (!l.isEmpty)
  | .frz l, _ => some (!l.isEmpty)
  | .ref n, S => match S[n]? with
    | some (.lst l) => some (!l.isEmpty)
    | _ => none
  | _, _ => none
/-- the list of what a sequence holds -/
def items : D → Sto → Option (List D)
  | .tup l, _ => some l
  | .lst l, _ => some l
  | .frz l, _ => some l
  | .ref n, S => match S[n]? with
    | some (.lst l) => some l
    | _ => none
  | _, _ => none
def eqD : D → D → Sto → Option Bool
  | .int i, .int j, _ => some (i == j)
  | .bl i, .bl j, _ => some (i == j)
  | .str i, .str j, _ => some (i == j)
  | .non, .non, _ => some true
  | a, b, S => match toP a, toP b with
    | some p, some q => if SeqAt.shaped p && SeqAt.shaped q then some (PyData.eqv p q) else none
    | _, _ => none
def flatD : D → Bool
  | .non => true | .bl _ => true | .int _ => true | .str _ => true | _ => false
def eqF : D → D → Bool
  | .non, .non => true
  | .bl a, .bl b => a == b
  | .bl a, .int b => (if a then 1 else 0) == b
  | .int a, .bl b => a == (if b then 1 else 0)
  | .int a, .int b => a == b
  | .str a, .str b => a == b
  | _, _ => false
def inD (x : D) (l : List D) : Option Bool := if flatD x && l.all flatD then some (l.any fun y => eqF y x) else none
def binop : BOp → D → D → Option D
  | .add, .int i, .int j => some (.int (i + j))
  | .add, .str i, .str j => if i.length + j.length ≤ 16777216 then some (.str (i ++ j)) else none
  | .add, .tup i, .tup j => if i.length + j.length ≤ 16777216 then some (.tup (i ++ j)) else none
  | .add, .lst i, .lst j => if i.length + j.length ≤ 16777216 then some (.lst (i ++ j)) else none
  | .sub, .int i, .int j => some (.int (i - j))
  | .mul, .int i, .int j => if (-(2 ^ 64) < i ∧ i < 2 ^ 64) ∨ (-(2 ^ 64) < j ∧ j < 2 ^ 64) then some (.int (i * j)) else none
  | .mul, .tup l, .int k => if -1000 ≤ k ∧ k ≤ 1000 ∧ l.length ≤ 1000 ∧ 0 < l.length then some (.tup (List.replicate k.toNat l).flatten) else none
  | .mul, .lst l, .int k => if 0 ≤ k ∧ k ≤ 1000 ∧ l.length ≤ 1000 then some (.lst (List.replicate k.toNat l).flatten) else none
  | .fdiv, .int i, .int j => if 0 < j ∧ j < 1073741824 then some (.int (i / j)) else none
  | .mod, .int i, .int j => if 0 < j then some (.int (i % j)) else none
  | .pow, .int i, .int j => if 0 ≤ j ∧ j ≤ 1000000 ∧ i.natAbs < 2 ^ 64 then some (.int (i ^ j.toNat)) else none
  | _, _, _ => none
def isNon : D → Bool
  | .non => true
  | _ => false
def cmpop : COp → D → D → Sto → Option Bool
  | .eq, a, b, S => eqD a b S
  | .ne, a, b, S => (eqD a b S).map (!·)
  | .lt, .int i, .int j, _ => some (decide (i < j))
  | .le, .int i, .int j, _ => some (decide (i ≤ j))
  | .gt, .int i, .int j, _ => some (decide (j < i))
  | .ge, .int i, .int j, _ => some (decide (j ≤ i))
  | .isin, a, b, S => match items b S with
    | some l => inD a l
    | none => none
  | .notin, a, b, S => match items b S with
    | some l => (inD a l).map (!·)
    | none => none
  | .is_, a, .non, _ => some (isNon a)
  | .isnot, a, .non, _ => some (!isNon a)
  | _, _, _, _ => none
def index (a i : D) (S : Sto) : Option D := match items a S, i with
  | some l, .int i => L2.atI l i
  | _, _ => none
def cut {α : Type} (l : List α) (lo hi : Option Int) : List α := (l.drop (HT.sIx l.length 0 lo)).take (HT.sIx l.length l.length hi - HT.sIx l.length 0 lo)
def slice (a : D) (lo hi : Option Int) (S : Sto) : Option D := match a with
  | .tup l => some (.tup (cut l lo hi))
  | .lst l => some (.lst (cut l lo hi))
  | .frz l => some (.lst (cut l lo hi))
  | .ref n => match S[n]? with
    | some (.lst l) => some (.lst (cut l lo hi))
    | _ => none
  | _ => none
def isTy : D → Ty → Option Bool
  | .non, _ => some false
  | .bl _, .bool => some true
  | .bl _, .int => some true
  | .bl _, _ => some false
  | .int _, .int => some true
  | .int _, _ => some false
  | .str _, .str => some true
  | .str _, _ => some false
  | .tup _, .tuple => some true
  | .tup _, _ => some false
  | .lst _, .list => some true
  | .lst _, _ => some false
  | .frz _, .list => some true
  | .frz _, _ => some false
  | _, _ => none
def numsOf : List D → Option (List Int)
  | [] => some []
  | .int i :: l => (numsOf l).map (i :: ·)
  | _ => none
/-- the truths of bools, numbers, None -/
def boolsOf : List D → Option (List Bool)
  | [] => some []
  | .bl i :: l => (boolsOf l).map (i :: ·)
  | .int i :: l => (boolsOf l).map ((i != 0) :: ·)
  | .non :: l => (boolsOf l).map (false :: ·)
  | _ => none
/-- its text, where it is not too long -/
def reprD (d : D) : Option Str := match toP d with
  | some p => if p.showable && SeqAt.shaped p && decide (p.shown.length ≤ 16777216) then some p.shown else none
  | none => none
def insertI (x : Int) : List Int → List Int
  | [] => [x]
  | y :: l => if x ≤ y then x :: y :: l else y :: insertI x l
def sortI : List Int → List Int
  | [] => []
  | x :: l => insertI x (sortI l)
/-- lists of tuples of numbers -/
def tupsOf : List D → Option (List (List Int))
  | [] => some []
  | .tup l :: r => match numsOf l, tupsOf r with
    | some ns, some ts => some (ns :: ts)
    | _, _ => none
  | _ => none
def insertT (x : List Int) : List (List Int) → List (List Int)
  | [] => [x]
  | y :: l => if lexI y x then y :: insertT x l else x :: y :: l
def sortT : List (List Int) → List (List Int)
  | [] => []
  | x :: l => insertT x (sortT l)
def tupD (ns : List Int) : D := .tup (ns.map .int)
/-- sorted of numbers, or of tuples of numbers of which the first one is empty -/
def sortedD (l : List D) : Option (List D) := match numsOf l with
  | some ns => some ((sortI ns).map .int)
  | none => match tupsOf l with
    | some ts => if ts.length < 2 ∨ ts.head? = some [] then some ((sortT ts).map tupD) else none
    | none => none
def maxI : List Int → Int
  | [] => 0
  | [x] => x
  | x :: l => max x (maxI l)
def minI : List Int → Int
  | [] => 0
  | [x] => x
  | x :: l => min x (minI l)
/-- what a list holds -/
def itemsL : D → Sto → Option (List D)
  | .lst l, _ => some l
  | .frz l, _ => some l
  | .ref n, S => match S[n]? with
    | some (.lst l) => some l
    | _ => none
  | _, _ => none
def numsL (a : D) (S : Sto) : Option (List Int) := (itemsL a S).bind numsOf
/-- a built-in's answer; what it makes in the store -/
def callB : Bf → List D → Sto → R D
  | .len, [.str s], S => if s.length ≤ 16777216 then .ok (.int s.length) S else .bad
  | .len, [a], S => opt ((items a S).map fun l => .int l.length) S
  | .int, [.int i], S => .ok (.int i) S
  | .int, [.bl b], S => .ok (.int (if b then 1 else 0)) S
  | .str, [.int i], S => if i.natAbs.log2 < 1920 then .ok (.str (toString i)) S else .bad
  | .str, [.str s], S => .ok (.str s) S
  | .abs, [.int i], S => .ok (.int (if i < 0 then -i else i)) S
  | .max2, [.int i, .int j], S => .ok (.int (if j > i then j else i)) S
  | .min2, [.int i, .int j], S => .ok (.int (if j < i then j else i)) S
  | .tuple, [a], S => opt ((items a S).map .tup) S
  | .list, [a], S => opt ((items a S).map .lst) S
  | .listM, [a], S => match items a S with
    | some l => .ok (.ref S.length) (S ++ [.lst l])
    | none => .bad
  | .sum, [a], S => opt ((numsL a S).map fun ns => .int ns.sum) S
  | .maxL, [a], S => match numsL a S with
    | some (i :: ns) => .ok (.int (maxI (i :: ns))) S
    | _ => .bad
  | .minL, [a], S => match numsL a S with
    | some (i :: ns) => .ok (.int (minI (i :: ns))) S
    | _ => .bad
  | .sorted, [a], S => opt (((itemsL a S).bind sortedD).map .lst) S
  | .any, [a], S => match items a S with
    | some l => opt ((boolsOf l).map fun bs => .bl (bs.any id)) S
    | none => .bad
  | .all, [a], S => match items a S with
    | some l => opt ((boolsOf l).map fun bs => .bl (bs.all id)) S
    | none => .bad
  | .repr, [a], S => opt ((reprD a).map .str) S
  | .gcd, [.int i, .int j], S => .ok (.int (Int.gcd i j)) S
  | .isI t, [a], S => opt ((isTy a t).map .bl) S
  | _, _, _ => .bad
/-! ### targets -/
def setAll : List Nat → List D → Env → Option Env
  | [], [], ρ => some ρ
  | i :: is, d :: ds, ρ => setAll is ds (ρ.set i (some d))
  | _, _, _ => none
def setTg : Tg → D → Env → Option Env
  | .nm i, d, ρ => some (ρ.set i (some d))
  | .tp is, .tup ds, ρ => setAll is ds ρ
  | .tp2 i is, .tup [d, .tup ds], ρ => setAll is ds (ρ.set i (some d))
  | _, _, _ => none
/-! ### the evaluator -/
abbrev Fns := Nat → List D → Thk → Sto → R D
def noThk : Thk := fun _ => .bad
def actR (th : Thk) (i : Nat) (ρ : Env) (S : Sto) : R D := match ρ[i]? with
  | some (some .lam) => th S
  | _ => .bad
def enumD : List D → Nat → List D
  | [], _ => []
  | d :: l, k => .tup [.int k, d] :: enumD l (k + 1)
def rangeD (lo : Int) : Nat → List D
  | 0 => []
  | n + 1 => .int lo :: rangeD (lo + 1) n
/-- range downwards -/
def rangeDn (hi : Int) : Nat → List D
  | 0 => []
  | n + 1 => .int hi :: rangeDn (hi - 1) n
def zipD : List D → List D → List D
  | a :: l, b :: r => .tup [a, b] :: zipD l r
  | _, _ => []
def within62 (i : Int) : Bool := decide (-(2 ^ 62) ≤ i ∧ i < 2 ^ 62)
/-- what a loop goes over: the items -/
def seqD : D → Option (List D)
  | .tup l => some l
  | .lst l => some l
  | .frz l => some l
  | _ => none
/-- range by -1 -/
def rng3 (x y z : D) (S : Sto) : R (List D) := match x, y, z with
  | .int i, .int j, .int k => if within62 i && within62 j && decide (k = -1) then .ok (rangeDn i (i - j).toNat) S else .bad
  | _, _, _ => .bad
/-- two lists, or two tuples, side by side -/
def zip2D : D → D → Option (List D)
  | .tup l, .tup r => some (zipD l r)
  | .lst l, .lst r => some (zipD l r)
  | _, _ => none
def whatR (i : Nat) (ρ : Env) (S : Sto) : R D := match ρ[i]? with
  | some (some (.exc _ w)) => .ok w S
  | _ => .bad
def isxR (sub : Nat → Nat → Option Bool) (i c : Nat) (ρ : Env) (S : Sto) : R D := match ρ[i]? with
  | some (some (.exc k _)) => opt ((sub k c).map .bl) S
  | _ => .bad
/-- (*x, ..) -/
def tupSR (x : D) (r : R (List D)) : R D := match x with
  | .tup p => r.bind fun xs S => if p.length ≤ 1000 then .ok (.tup (p ++ xs)) S else .bad
  | _ => .bad
/-- slots cleared -/
def clr : List Nat → Env → Env
  | [], ρ => ρ
  | i :: l, ρ => (clr l ρ).set i none
def Tg.slots : Tg → List Nat
  | .nm i => [i]
  | .tp l => l
  | .tp2 i l => i :: l
section
variable (G : List Int) (sub : Nat → Nat → Option Bool) (C : Nat → Fns)
/-- a comprehension's turns -/
def compL (tg : Tg) (cond : Env → Sto → R Bool) (elt : Env → Sto → R D) (ρ : Env) : List D → Sto → R (List D)
  | [], S => .ok [] S
  | d :: l, S => match setTg tg d ρ with
    | none => .bad
    | some ρ' => (cond ρ' S).bind fun b S1 => match b with
      | true => (elt ρ' S1).bind fun x S2 => (compL tg cond elt ρ l S2).bind fun xs S3 => .ok (x :: xs) S3
      | false => compL tg cond elt ρ l S1
/-- the turns of one with two fors; left: how many items there may be yet -/
def compL2 (tg : Tg) (cond : Env → Sto → R Bool) (itr : Env → Sto → R (List D)) (tg1 : Tg) (cond1 : Env → Sto → R Bool) (elt : Env → Sto → R D) (ρ : Env) : Nat → List D → Sto → R (List D)
  | _, [], S => .ok [] S
  | left, d :: l, S => match setTg tg d ρ with
    | none => .bad
    | some ρ' => (cond ρ' S).bind fun b S1 => match b with
      | true => (itr ρ' S1).bind fun es S2 => if es.length ≤ left then (compL tg1 cond1 elt ρ' es S2).bind fun xs S3 => (compL2 tg cond itr tg1 cond1 elt ρ (left - es.length) l S3).bind fun ys S4 => .ok (xs ++ ys) S4 else .bad
      | false => compL2 tg cond itr tg1 cond1 elt ρ left l S1
open Classical in
/-- the same over a list of the store, which stays as it is meanwhile -/
noncomputable def compLg (r : Nat) (all : List D) (tg : Tg) (cond : Env → Sto → R Bool) (elt : Env → Sto → R D) (ρ : Env) : List D → Sto → R (List D)
  | [], S => if S[r]? = some (.lst all) then .ok [] S else .bad
  | d :: l, S => if S[r]? = some (.lst all) then (match setTg tg d ρ with
    | none => .bad
    | some ρ' => (cond ρ' S).bind fun b S1 => match b with
      | true => (elt ρ' S1).bind fun x S2 => (compLg r all tg cond elt ρ l S2).bind fun xs S3 => .ok (x :: xs) S3
      | false => compLg r all tg cond elt ρ l S1) else .bad
/-- a list of the store that a name has -/
def cellAt (i : Nat) (ρ : Env) (S : Sto) : Option (Nat × List D) := match ρ[i]? with
  | some (some (.ref r)) => (match S[r]? with
    | some (.lst l) => some (r, l)
    | _ => none)
  | _ => none
mutual
noncomputable def ev : Ex → Nat → Thk → Env → Sto → R D
  | .var i, n, th, ρ, S => match ρ[i]? with
    | some (some (.exc _ _)) => .bad
    | some (some .lam) => .bad
    | some (some d) => .ok d S
    | _ => .bad
  | .int i, n, th, _, S => .ok (.int i) S
  | .bl b, n, th, _, S => .ok (.bl b) S
  | .non, n, th, _, S => .ok .non S
  | .str s, n, th, _, S => .ok (.str s) S
  | .glob g, n, th, _, S => match G[g]? with
    | some i => .ok (.int i) S
    | none => .bad
  | .bin op a b, n, th, ρ, S => (ev a n th ρ S).bind fun x S1 => (ev b n th ρ S1).bind fun y S2 => opt (binop op x y) S2
  | .neg a, n, th, ρ, S => (ev a n th ρ S).bind fun x S1 => match x with
    | .int i => .ok (.int (-i)) S1
    | _ => .bad
  | .cmp op a b, n, th, ρ, S => (ev a n th ρ S).bind fun x S1 => (ev b n th ρ S1).bind fun y S2 => opt ((cmpop op x y S2).map .bl) S2
  | .chain o1 o2 a b c, n, th, ρ, S => (ev a n th ρ S).bind fun x S1 => (ev b n th ρ S1).bind fun y S2 => match cmpop o1 x y S2 with
    | some true => (ev c n th ρ S2).bind fun z S3 => opt ((cmpop o2 y z S3).map .bl) S3
    | some false => .ok (.bl false) S2
    | none => .bad
  | .and_ l, n, th, ρ, S => evAnd l n th ρ S
  | .or_ l, n, th, ρ, S => evOr l n th ρ S
  | .not a, n, th, ρ, S => (ev a n th ρ S).bind fun x S1 => opt ((truthy x S1).map fun b => .bl (!b)) S1
  | .ife c a b, n, th, ρ, S => (ev c n th ρ S).bind fun x S1 => match truthy x S1 with
    | some true => ev a n th ρ S1
    | some false => ev b n th ρ S1
    | none => .bad
  | .call f l, n, th, ρ, S => (evs l n th ρ S).bind fun xs S1 => C n f xs noThk S1
  | .callB b l, n, th, ρ, S => (evs l n th ρ S).bind fun xs S1 => callB b xs S1
  | .tup l, n, th, ρ, S => (evs l n th ρ S).bind fun xs S1 => .ok (.tup xs) S1
  | .tupS a l, n, th, ρ, S => (ev a n th ρ S).bind fun x S1 => tupSR x (evs l n th ρ S1)
  | .lst l, n, th, ρ, S => (evs l n th ρ S).bind fun xs S1 => .ok (.lst xs) S1
  | .cell l, n, th, ρ, S => (evs l n th ρ S).bind fun xs S1 => .ok (.ref S1.length) (S1 ++ [.lst xs])
  | .ix a i, n, th, ρ, S => (ev a n th ρ S).bind fun x S1 => (ev i n th ρ S1).bind fun y S2 => opt (index x y S2) S2
  | .slLo a lo, n, th, ρ, S => (ev a n th ρ S).bind fun x S1 => (ev lo n th ρ S1).bind fun y S2 => match y with
    | .int i => opt (slice x (some i) none S2) S2
    | _ => .bad
  | .slHi a hi, n, th, ρ, S => (ev a n th ρ S).bind fun x S1 => (ev hi n th ρ S1).bind fun y S2 => match y with
    | .int i => opt (slice x none (some i) S2) S2
    | _ => .bad
  | .slLH a lo hi, n, th, ρ, S => (ev a n th ρ S).bind fun x S1 => (ev lo n th ρ S1).bind fun y S2 => match y with
    | .int i => (ev hi n th ρ S2).bind fun z S3 => match z with
      | .int j => opt (slice x (some i) (some j) S3) S3
      | _ => .bad
    | _ => .bad
  | .rev a, n, th, ρ, S => (ev a n th ρ S).bind fun x S1 => match x with
    | .tup l => .ok (.tup l.reverse) S1
    | .lst l => .ok (.lst l.reverse) S1
    | _ => .bad
  | .comp m elt tg it conds, n, th, ρ, S => (evIt it n th ρ S).bind fun ds S1 => (if ds.length ≤ 16777216 then
      (compL tg (fun ρ' S' => (evAll conds n th ρ' S').nox) (fun ρ' S' => (ev elt n th ρ' S').nox) ρ ds S1).bind fun xs S2 =>
        (if m then .ok (.ref S2.length) (S2 ++ [.lst xs]) else .ok (.lst xs) S2)
      else .bad)
  | .compc m elt tg i conds, n, th, ρ, S => match cellAt i ρ S with
    | some (r, ds) => (if ds.length ≤ 16777216 then
      (compLg r ds tg (fun ρ' S' => (evAll conds n th ρ' S').nox) (fun ρ' S' => (ev elt n th ρ' S').nox) ρ ds S).bind fun xs S2 =>
        (if m then .ok (.ref S2.length) (S2 ++ [.lst xs]) else .ok (.lst xs) S2)
      else .bad)
    | none => .bad
  | .comp2 m elt tg it conds tg1 it1 conds1, n, th, ρ, S => (evIt it n th ρ S).bind fun ds S1 =>
      (compL2 tg (fun ρ' S' => (evAll conds n th ρ' S').nox) (fun ρ' S' => (evIt it1 n th ρ' S').nox) tg1 (fun ρ' S' => (evAll conds1 n th ρ' S').nox) (fun ρ' S' => (ev elt n th ρ' S').nox) (clr tg1.slots ρ) 16777216 ds S1).bind fun xs S2 =>
        (if m then .ok (.ref S2.length) (S2 ++ [.lst xs]) else .ok (.lst xs) S2)
  | .lamcall f e, n, th, ρ, S => match n with
    | k + 2 => C (k + 2) f [.lam] (fun S' => ev e k noThk ρ S') S
    | _ => .bad
  | .act i, n, th, ρ, S => actR th i ρ S
  | .append a e, n, th, ρ, S => (ev a n th ρ S).bind fun x S1 => match x with
    | .ref k => (ev e n th ρ S1).bind fun y S2 => match S2[k]? with
      | some (.lst l) => if l.length < 16777216 then .ok .non (S2.set k (.lst (l ++ [y]))) else .bad
      | _ => .bad
    | _ => .bad
  | .what i, n, th, ρ, S => whatR i ρ S
  | .isX i c, n, th, ρ, S => isxR sub i c ρ S
noncomputable def evs : Exs → Nat → Thk → Env → Sto → R (List D)
  | .nil, n, th, _, S => .ok [] S
  | .cons a l, n, th, ρ, S => (ev a n th ρ S).bind fun x S1 => (evs l n th ρ S1).bind fun xs S2 => .ok (x :: xs) S2
noncomputable def evAnd : Exs → Nat → Thk → Env → Sto → R D
  | .nil, n, th, _, S => .bad
  | .cons a .nil, n, th, ρ, S => ev a n th ρ S
  | .cons a l, n, th, ρ, S => (ev a n th ρ S).bind fun x S1 => match truthy x S1 with
    | some true => evAnd l n th ρ S1
    | some false => .ok x S1
    | none => .bad
noncomputable def evOr : Exs → Nat → Thk → Env → Sto → R D
  | .nil, n, th, _, S => .bad
  | .cons a .nil, n, th, ρ, S => ev a n th ρ S
  | .cons a l, n, th, ρ, S => (ev a n th ρ S).bind fun x S1 => match truthy x S1 with
    | some false => evOr l n th ρ S1
    | some true => .ok x S1
    | none => .bad
/-- the tests of a comprehension -/
noncomputable def evAll : Exs → Nat → Thk → Env → Sto → R Bool
  | .nil, n, th, _, S => .ok true S
  | .cons a l, n, th, ρ, S => (ev a n th ρ S).bind fun x S1 => match truthy x S1 with
    | some true => evAll l n th ρ S1
    | some false => .ok false S1
    | none => .bad
noncomputable def evIt : It → Nat → Thk → Env → Sto → R (List D)
  | .seq e, n, th, ρ, S => (ev e n th ρ S).bind fun x S1 => opt (seqD x) S1
  | .range1 a, n, th, ρ, S => (ev a n th ρ S).bind fun x S1 => match x with
    | .int n => if within62 n then .ok (rangeD 0 n.toNat) S1 else .bad
    | _ => .bad
  | .range2 a b, n, th, ρ, S => (ev a n th ρ S).bind fun x S1 => (ev b n th ρ S1).bind fun y S2 => match x, y with
    | .int i, .int j => if within62 i && within62 j then .ok (rangeD i (j - i).toNat) S2 else .bad
    | _, _ => .bad
  | .range3 a b c, n, th, ρ, S => (ev a n th ρ S).bind fun x S1 => (ev b n th ρ S1).bind fun y S2 => (ev c n th ρ S2).bind fun z S3 => rng3 x y z S3
  | .enum e, n, th, ρ, S => (ev e n th ρ S).bind fun x S1 => opt ((seqD x).map fun l => enumD l 0) S1
  | .zip2 a b, n, th, ρ, S => (ev a n th ρ S).bind fun x S1 => (ev b n th ρ S1).bind fun y S2 => opt (zip2D x y) S2
end

/-! ### statements -/
inductive RS where
  | next (ρ : Env) (S : Sto) | ret (d : D) (S : Sto) | exn (c : Nat) (w : D) (ρ : Env) (S : Sto) | bad
def RS.bind (r : RS) (f : Env → Sto → RS) : RS := match r with
  | .next ρ S => f ρ S
  | r => r
@[simp] theorem RS.bind_next (ρ : Env) (S : Sto) (f : Env → Sto → RS) : (RS.next ρ S).bind f = f ρ S := rfl
@[simp] theorem RS.bind_ret (d : D) (S : Sto) (f : Env → Sto → RS) : (RS.ret d S).bind f = .ret d S := rfl
@[simp] theorem RS.bind_exn (c : Nat) (w : D) (ρ : Env) (S : Sto) (f : Env → Sto → RS) : (RS.exn c w ρ S).bind f = .exn c w ρ S := rfl
@[simp] theorem RS.bind_bad (f : Env → Sto → RS) : RS.bad.bind f = .bad := rfl
/-- an expression's answer within a statement -/
def R.go {α : Type} (r : R α) (ρ : Env) (f : α → Sto → RS) : RS := match r with
  | .ok a S => f a S
  | .exn c w S => .exn c w ρ S
  | .bad => .bad
@[simp] theorem R.go_ok {α : Type} (a : α) (S : Sto) (ρ : Env) (f : α → Sto → RS) : (R.ok a S).go ρ f = f a S := rfl
@[simp] theorem R.go_exn {α : Type} (c : Nat) (w : D) (S : Sto) (ρ : Env) (f : α → Sto → RS) : (R.exn c w S : R α).go ρ f = .exn c w ρ S := rfl
@[simp] theorem R.go_bad {α : Type} (ρ : Env) (f : α → Sto → RS) : (R.bad : R α).go ρ f = .bad := rfl
def forL (tg : Tg) (body : Env → Sto → RS) : List D → Env → Sto → RS
  | [], ρ, S => .next ρ S
  | d :: l, ρ, S => match setTg tg d ρ with
    | none => .bad
    | some ρ' => (body ρ' S).bind fun ρ1 S1 => forL tg body l ρ1 S1
open Classical in
noncomputable def forLg (r : Nat) (all : List D) (tg : Tg) (body : Env → Sto → RS) : List D → Env → Sto → RS
  | [], ρ, S => if S[r]? = some (.lst all) then .next ρ S else .bad
  | d :: l, ρ, S => if S[r]? = some (.lst all) then (match setTg tg d ρ with
    | none => .bad
    | some ρ' => (body ρ' S).bind fun ρ1 S1 => forLg r all tg body l ρ1 S1) else .bad
def whileL (cond : Env → Sto → R D) (body : Env → Sto → RS) : Nat → Env → Sto → RS
  | 0, _, _ => .bad
  | n + 1, ρ, S => (cond ρ S).go ρ fun x S1 => match truthy x S1 with
    | some true => (body ρ S1).bind fun ρ2 S2 => whileL cond body n ρ2 S2
    | some false => .next ρ S1
    | none => .bad
/-- errors are forgotten -/
def clean (ρ : Env) : Env := ρ.map fun x => match x with
  | some (.exc _ _) => none
  | x => x
/-- behind an except suite -/
def endH (j : Nat) (r : RS) : RS := match r with
  | .next ρ S => .next (clean (ρ.set j none)) S
  | .ret d S => .ret d S
  | _ => .bad
def endN (r : RS) : RS := match r with
  | .next ρ S => .next ρ S
  | .ret d S => .ret d S
  | _ => .bad
def tryR (r : RS) (h : Nat → D → Env → Sto → RS) : RS := match r with
  | .exn c w ρ S => h c w ρ S
  | r => r
variable (wf : Nat)
mutual
noncomputable def exs : Sm → Nat → Thk → Env → Sto → RS
  | .expr e, n, th, ρ, S => (ev G sub C e n th ρ S).go ρ fun _ S1 => .next ρ S1
  | .asg t e, n, th, ρ, S => (ev G sub C e n th ρ S).go ρ fun d S1 => match setTg t d ρ with
    | some ρ' => .next ρ' S1
    | none => .bad
  | .par l e, n, th, ρ, S => (evs G sub C e n th ρ S).go ρ fun ds S1 => match setAll l ds ρ with
    | some ρ' => .next ρ' S1
    | none => .bad
  | .setIx a i e, n, th, ρ, S => (ev G sub C e n th ρ S).go ρ fun d S1 => (ev G sub C a n th ρ S1).go ρ fun x S2 => (ev G sub C i n th ρ S2).go ρ fun y S3 => match x, y with
    | .ref m, .int j => match S3[m]? with
      | some (.lst l) => match L2.ixN l.length j with
        | some k => .next ρ (S3.set m (.lst (l.set k d)))
        | none => .bad
      | _ => .bad
    | _, _ => .bad
  | .if_ c t e, n, th, ρ, S => (ev G sub C c n th ρ S).go ρ fun x S1 => match truthy x S1 with
    | some true => exss t n th ρ S1
    | some false => exss e n th ρ S1
    | none => .bad
  | .for_ t it b, n, th, ρ, S => (evIt G sub C it n th ρ S).go ρ fun ds S1 => forL t (fun ρ' S' => exss b n th ρ' S') ds ρ S1
  | .forc t i b, n, th, ρ, S => match cellAt i ρ S with
    | some (r, ds) => forLg r ds t (fun ρ' S' => exss b n th ρ' S') ds ρ S
    | none => .bad
  | .while_ c b, n, th, ρ, S => whileL (fun ρ' S' => ev G sub C c n th ρ' S') (fun ρ' S' => exss b n th ρ' S') wf ρ S
  | .ret e, n, th, ρ, S => (ev G sub C e n th ρ S).go ρ fun d S1 => .ret d S1
  | .retN, n, th, ρ, S => .ret .non S
  | .raise c e, n, th, ρ, S => if 2 ≤ n then (ev G sub C e n th ρ S).go ρ fun w S1 => .exn c w ρ S1 else .bad
  | .try_ b h, n, th, ρ, S => tryR (exss b n th ρ S) fun c w ρ1 S1 => hds h n c w ρ1 S1
  | .pass, n, th, ρ, S => .next ρ S
noncomputable def exss : Sms → Nat → Thk → Env → Sto → RS
  | .nil, n, th, ρ, S => .next ρ S
  | .cons a l, n, th, ρ, S => (exs a n th ρ S).bind fun ρ1 S1 => exss l n th ρ1 S1
/-- the clauses: the suite asks no def -/
noncomputable def hds : Hds → Nat → Nat → D → Env → Sto → RS
  | .nil, n, c, w, ρ, S => .exn c w ρ S
  | .cons k i b l, n, c, w, ρ, S => match sub c k with
    | some true => (match i with
      | some j => endH j (exss b n noThk ((clean ρ).set j (some (.exc c w))) S)
      | none => endN (exss b n noThk ρ S))
    | some false => hds l n c w ρ S
    | none => .bad
end
end
/-! ### defs -/
def startE (N np : Nat) (ds : List D) : Env := ds.map some ++ List.replicate (N - np) none
def subP (P : Prg) (c k : Nat) : Option Bool := (P.sub[c]?).bind fun l => l[k]?
noncomputable def tab (P : Prg) (wf : Nat) : Nat → Nat → Fns
  | 0 => fun _ _ _ _ _ => .bad
  | k + 1 => fun j f ds th S => if j = k + 1 then (match P.defs[f]? with
      | none => .bad
      | some d => if ds.length = d.np then (match exss (P.globs.map (·.2)) (subP P) (tab P wf k) wf d.body k th (startE d.N.length d.np ds) S with
        | .next _ S' => .ok .non S'
        | .ret x S' => .ok x S'
        | .exn c w _ S' => .exn c w S'
        | .bad => .bad) else .bad) else tab P wf k j f ds th S
noncomputable def callF (P : Prg) (wf k : Nat) : Fns := tab P wf k k
theorem tab_eq (P : Prg) (wf : Nat) {j : Nat} : ∀ {k : Nat}, j ≤ k → tab P wf k j = callF P wf j
  | 0, h => by
    have e : j = 0 := by omega
    subst e
    rfl
  | k + 1, h => by
    by_cases e : j = k + 1
    · subst e
      rfl
    · have ih := tab_eq P wf (j := j) (k := k) (by omega)
      rw [← ih]
      funext f ds th S
      show (if j = k + 1 then _ else _) = _
      rw [if_neg e]
end Bh

set_option Elab.async false
set_option linter.all false
/-! Bh: how data lies in the abstract heap. -/
namespace Bh
open PySem PySem.Spec L2

abbrev noH : Hp := fun _ => none
mutual
/-- v bears the datum d: m the places of the store's objects, hid what is in the making -/
def Br (K : PySem.W.Frag) (hid m : List Addr) (H : Hp) : D → V → Prop
  | .non, v => v = .non
  | .bl b, v => v = .bl b
  | .int i, v => v = .int i
  | .str s, v => v = .str s
  | .tup l, v => ∃ a vs, v = .ref a ∧ ((H a = some (.tup vs) ∧ a ∉ hid ∧ a ∉ m) ∨ SqT K noH a vs) ∧ BrL K hid m H l vs
  | .lst l, v => ∃ a vs, v = .ref a ∧ H a = some (.lst vs) ∧ a ∉ hid ∧ a ∉ m ∧ BrL K hid m H l vs
  | .frz l, v => ∃ a vs, v = .ref a ∧ (((∃ o, H a = some (.frz o (.lst vs))) ∧ a ∉ hid ∧ a ∉ m) ∨ SqL K noH a vs) ∧ BrL K hid m H l vs
  | .ref n, v => ∃ a, m[n]? = some a ∧ v = .ref a
  | _, _ => False
def BrL (K : PySem.W.Frag) (hid m : List Addr) (H : Hp) : List D → List V → Prop
  | [], vs => vs = []
  | d :: l, vs => ∃ v r, vs = v :: r ∧ Br K hid m H d v ∧ BrL K hid m H l r
end
/-- an object that is no table stands there -/
def NT (H : Hp) (b : Addr) : Prop := ∃ o, H b = some o ∧ ∀ ps, o ≠ .tbl ps
theorem NT.ne {H : Hp} {b : Addr} (h : NT H b) : H b ≠ none := fun z => by
  obtain ⟨o, e, _⟩ := h
  rw [z] at e
  cases e
/-- from m, H on to m', H' -/
structure Grow (m : List Addr) (H : Hp) (m' : List Addr) (H' : Hp) : Prop where
  more : ∃ t, m' = m ++ t ∧ ∀ a ∈ t, ¬ NT H a
  keep : ∀ b o, H b = some o → b ∉ m → (∀ ps, o ≠ .tbl ps) → H' b = some o
  there : ∀ b, NT H b → NT H' b
theorem Grow.refl {m : List Addr} {H : Hp} : Grow m H m H := ⟨⟨[], by simp, fun _ h => by simp at h⟩, fun _ _ h _ _ => h, fun _ h => h⟩
theorem Grow.trans {m m1 m2 : List Addr} {H H1 H2 : Hp} (a : Grow m H m1 H1) (b : Grow m1 H1 m2 H2) : Grow m H m2 H2 := by
  obtain ⟨t1, e1, f1⟩ := a.more
  obtain ⟨t2, e2, f2⟩ := b.more
  refine ⟨⟨t1 ++ t2, by rw [e2, e1, List.append_assoc], fun c hc => ?_⟩, fun c o h n nt => b.keep c o (a.keep c o h n nt) ?_ nt, fun c h => b.there c (a.there c h)⟩
  · rcases List.mem_append.mp hc with h | h
    · exact f1 c h
    · exact fun z => f2 c h (a.there c z)
  · rw [e1]
    intro z
    rcases List.mem_append.mp z with h' | h'
    · exact n h'
    · exact f1 c h' ⟨o, h, nt⟩
section
variable {K : PySem.W.Frag} {hid m m' : List Addr} {H H' : Hp}
theorem Grow.out {b : Addr} (g : Grow m H m' H') (h : NT H b) (n : b ∉ m) : b ∉ m' := by
  obtain ⟨t, e, f⟩ := g.more
  rw [e]
  intro z
  rcases List.mem_append.mp z with q | q
  · exact n q
  · exact f b q h
theorem Grow.at_ {n : Nat} {a : Addr} (g : Grow m H m' H') (h : m[n]? = some a) : m'[n]? = some a := by
  obtain ⟨t, e, f⟩ := g.more
  rw [e, List.getElem?_append_left (by
    have := (List.getElem?_eq_some_iff.mp h).1
    exact this)]
  exact h
mutual
theorem Br.grow (g : Grow m H m' H') : ∀ (d : D) (v : V), Br K hid m H d v → Br K hid m' H' d v
  | .non, _, h => by simpa only [Br] using h
  | .bl _, _, h => by simpa only [Br] using h
  | .int _, _, h => by simpa only [Br] using h
  | .str _, _, h => by simpa only [Br] using h
  | .tup l, v, h => by
    simp only [Br] at h ⊢
    obtain ⟨a, vs, e, q, hl⟩ := h
    refine ⟨a, vs, e, ?_, BrL.grow g l vs hl⟩
    rcases q with ⟨q1, q2, q3⟩ | q
    · exact .inl ⟨g.keep a _ q1 q3 (fun ps z => by cases z), q2, g.out ⟨_, q1, fun ps z => by cases z⟩ q3⟩
    · exact .inr q
  | .lst l, v, h => by
    simp only [Br] at h ⊢
    obtain ⟨a, vs, e, q1, q2, q3, hl⟩ := h
    exact ⟨a, vs, e, g.keep a _ q1 q3 (fun ps z => by cases z), q2, g.out ⟨_, q1, fun ps z => by cases z⟩ q3, BrL.grow g l vs hl⟩
  | .frz l, v, h => by
    simp only [Br] at h ⊢
    obtain ⟨a, vs, e, q, hl⟩ := h
    refine ⟨a, vs, e, ?_, BrL.grow g l vs hl⟩
    rcases q with ⟨⟨o, q1⟩, q2, q3⟩ | q
    · exact .inl ⟨⟨o, g.keep a _ q1 q3 (fun ps z => by cases z)⟩, q2, g.out ⟨_, q1, fun ps z => by cases z⟩ q3⟩
    · exact .inr q
  | .ref n, v, h => by
    simp only [Br] at h ⊢
    obtain ⟨a, h1, h2⟩ := h
    exact ⟨a, g.at_ h1, h2⟩
  | .exc _ _, _, h => by simp only [Br] at h
  | .lam, _, h => by simp only [Br] at h
theorem BrL.grow (g : Grow m H m' H') : ∀ (l : List D) (vs : List V), BrL K hid m H l vs → BrL K hid m' H' l vs
  | [], _, h => by simpa only [BrL] using h
  | d :: l, vs, h => by
    simp only [BrL] at h ⊢
    obtain ⟨v, r, e, h1, h2⟩ := h
    exact ⟨v, r, e, Br.grow g d v h1, BrL.grow g l r h2⟩
end
theorem BrL.length : ∀ {l : List D} {vs : List V}, BrL K hid m H l vs → l.length = vs.length
  | [], _, h => by simp only [BrL] at h; rw [h]; rfl
  | d :: l, vs, h => by
    simp only [BrL] at h
    obtain ⟨v, r, e, _, h2⟩ := h
    rw [e, List.length_cons, List.length_cons, BrL.length h2]
theorem BrL.get : ∀ {l : List D} {vs : List V} {i : Nat} {d : D}, BrL K hid m H l vs → l[i]? = some d → ∃ v, vs[i]? = some v ∧ Br K hid m H d v
  | [], _, _, _, _, e => by simp at e
  | d :: l, vs, 0, x, h, e => by
    simp only [BrL] at h
    obtain ⟨v, r, rfl, h1, _⟩ := h
    simp at e
    subst e
    exact ⟨v, rfl, h1⟩
  | d :: l, vs, i + 1, x, h, e => by
    simp only [BrL] at h
    obtain ⟨v, r, rfl, _, h2⟩ := h
    obtain ⟨u, q1, q2⟩ := BrL.get (i := i) h2 (by simpa using e)
    exact ⟨u, by simpa using q1, q2⟩
theorem BrL.app : ∀ {l r : List D} {vs us : List V}, BrL K hid m H l vs → BrL K hid m H r us → BrL K hid m H (l ++ r) (vs ++ us)
  | [], _, _, _, h, k => by
    simp only [BrL] at h
    rw [h]
    exact k
  | d :: l, r, vs, us, h, k => by
    simp only [BrL] at h
    obtain ⟨v, q, rfl, h1, h2⟩ := h
    show BrL K hid m H (d :: (l ++ r)) (v :: (q ++ us))
    simp only [BrL]
    exact ⟨v, _, rfl, h1, BrL.app h2 k⟩
theorem BrL.one {d : D} {v : V} (h : Br K hid m H d v) : BrL K hid m H [d] [v] := by
  simp only [BrL]
  exact ⟨v, [], rfl, h, rfl⟩
theorem BrL.drop : ∀ {l : List D} {vs : List V} (n : Nat), BrL K hid m H l vs → BrL K hid m H (l.drop n) (vs.drop n)
  | _, _, 0, h => h
  | [], vs, n + 1, h => by
    simp only [BrL] at h
    rw [h]
    simp [BrL]
  | d :: l, vs, n + 1, h => by
    simp only [BrL] at h
    obtain ⟨v, q, rfl, h1, h2⟩ := h
    exact BrL.drop n h2
theorem BrL.take : ∀ {l : List D} {vs : List V} (n : Nat), BrL K hid m H l vs → BrL K hid m H (l.take n) (vs.take n)
  | _, _, 0, h => by simp [BrL]
  | [], vs, n + 1, h => by
    simp only [BrL] at h
    rw [h]
    simp [BrL]
  | d :: l, vs, n + 1, h => by
    simp only [BrL] at h
    obtain ⟨v, q, rfl, h1, h2⟩ := h
    show BrL K hid m H (d :: l.take n) (v :: q.take n)
    simp only [BrL]
    exact ⟨v, _, rfl, h1, BrL.take n h2⟩
theorem BrL.set : ∀ {l : List D} {vs : List V} (n : Nat) {d : D} {v : V}, BrL K hid m H l vs → Br K hid m H d v → BrL K hid m H (l.set n d) (vs.set n v)
  | [], vs, n, d, v, h, k => by
    simp only [BrL] at h
    rw [h]
    simp [BrL]
  | x :: l, vs, 0, d, v, h, k => by
    simp only [BrL] at h
    obtain ⟨u, q, rfl, h1, h2⟩ := h
    show BrL K hid m H (d :: l) (v :: q)
    simp only [BrL]
    exact ⟨v, _, rfl, k, h2⟩
  | x :: l, vs, n + 1, d, v, h, k => by
    simp only [BrL] at h
    obtain ⟨u, q, rfl, h1, h2⟩ := h
    show BrL K hid m H (x :: l.set n d) (u :: q.set n v)
    simp only [BrL]
    exact ⟨u, _, rfl, h1, BrL.set n h2 k⟩
theorem BrL.rev : ∀ {l : List D} {vs : List V}, BrL K hid m H l vs → BrL K hid m H l.reverse vs.reverse
  | [], vs, h => by
    simp only [BrL] at h
    rw [h]
    simp [BrL]
  | d :: l, vs, h => by
    simp only [BrL] at h
    obtain ⟨v, q, rfl, h1, h2⟩ := h
    rw [List.reverse_cons, List.reverse_cons]
    exact (BrL.rev h2).app (.one h1)
theorem BrL.repl {l : List D} {vs : List V} (h : BrL K hid m H l vs) : ∀ n : Nat, BrL K hid m H (List.replicate n l).flatten (List.replicate n vs).flatten
  | 0 => by simp [BrL]
  | n + 1 => by
    rw [List.replicate_succ, List.replicate_succ, List.flatten_cons, List.flatten_cons]
    exact h.app (BrL.repl h n)
/-- a tuple, a list, as the rules want them -/
theorem Br.tup {l : List D} {v : V} (h : Br K hid m H (.tup l) v) : ∃ a vs, v = .ref a ∧ SqT K H a vs ∧ BrL K hid m H l vs := by
  simp only [Br] at h
  obtain ⟨a, vs, e, q, hl⟩ := h
  refine ⟨a, vs, e, ?_, hl⟩
  rcases q with ⟨q, _⟩ | q
  · exact .inl (.inl q)
  · rcases q with (q | ⟨_, q⟩) | q
    · cases q
    · cases q
    · exact .inr q
theorem Br.lst {l : List D} {v : V} (h : Br K hid m H (.lst l) v) : ∃ a vs, v = .ref a ∧ H a = some (.lst vs) ∧ BrL K hid m H l vs := by
  simp only [Br] at h
  obtain ⟨a, vs, e, q, _, _, hl⟩ := h
  exact ⟨a, vs, e, q, hl⟩
theorem Br.frz {l : List D} {v : V} (h : Br K hid m H (.frz l) v) : ∃ a vs, v = .ref a ∧ SqL K H a vs ∧ BrL K hid m H l vs := by
  simp only [Br] at h
  obtain ⟨a, vs, e, q, hl⟩ := h
  refine ⟨a, vs, e, ?_, hl⟩
  rcases q with ⟨⟨o, q⟩, _⟩ | q
  · exact .inl (.inr ⟨o, q⟩)
  · rcases q with (q | ⟨_, q⟩) | q
    · cases q
    · cases q
    · exact .inr q
/-- new ones -/
theorem Br.newTup {l : List D} {vs : List V} {a : Addr} (h : H a = some (.tup vs)) (n1 : a ∉ hid) (n2 : a ∉ m) (hl : BrL K hid m H l vs) : Br K hid m H (.tup l) (.ref a) := by
  simp only [Br]
  exact ⟨a, vs, rfl, .inl ⟨h, n1, n2⟩, hl⟩
theorem Br.newLst {l : List D} {vs : List V} {a : Addr} (h : H a = some (.lst vs)) (n1 : a ∉ hid) (n2 : a ∉ m) (hl : BrL K hid m H l vs) : Br K hid m H (.lst l) (.ref a) := by
  simp only [Br]
  exact ⟨a, vs, rfl, h, n1, n2, hl⟩
end
/-! ### the state -/
/-- what is fixed of a context -/
structure Cg where
  K : PySem.W.Frag
  T : List (Addr × Str)
  cls : Nat → Addr
  hid : List Addr
  exA : Addr → Nat → Addr → Prop
  lamA : Addr → Prop
  m0 : List Addr
  H0 : Hp
abbrev Cg.br (Γ : Cg) (m : List Addr) (H : Hp) : D → V → Prop := Br Γ.K Γ.hid m H
abbrev Cg.brl (Γ : Cg) (m : List Addr) (H : Hp) : List D → List V → Prop := BrL Γ.K Γ.hid m H
def OOk (Γ : Cg) (m : List Addr) (H : Hp) (a : Addr) : O → Prop
  | .lst l => ∃ vs, H a = some (.lst vs) ∧ Γ.brl m H l vs
  | .ins _ _ => False
structure StOk (Γ : Cg) (m : List Addr) (S : Sto) (H : Hp) : Prop where
  len : m.length = S.length
  nd : m.Nodup
  hidm : ∀ a ∈ Γ.hid, a ∉ m
  hids : ∀ a ∈ Γ.hid, NT H a
  obj : ∀ (n : Nat) (a : Addr) (o : O), m[n]? = some a → S[n]? = some o → OOk Γ m H a o
  tabs : LamX.Tabs Γ.T H
/-- the dict of an exception that has v as what -/
def Xd (H : Hp) (dx : Addr) (v : V) : Prop := ∃ fs, H dx = some (.xd fs) ∧ fs.lookup ("what" : Str) = some v
/-- a slot -/
def BrE (Γ : Cg) (m : List Addr) (H : Hp) : D → V → Prop
  | .exc c w, v => ∃ a dx x, v = .ref a ∧ Γ.exA a c dx ∧ Xd H dx x ∧ dx ∉ m ∧ Γ.br m H w x
  | .lam, v => ∃ a, v = .ref a ∧ Γ.lamA a ∧ Grow Γ.m0 Γ.H0 m H
  | d, v => Γ.br m H d v
structure EnvOk (Γ : Cg) (m : List Addr) (H : Hp) (ρ : Env) (σ : L2.St) : Prop where
  len : ρ.length ≤ σ.length
  sl : ∀ (i : Nat) (d : D), ρ[i]? = some (some d) → ∃ v, σ[i]? = some (some v) ∧ BrE Γ m H d v
section
variable {Γ : Cg} {m m' : List Addr} {H H' : Hp} {S S' : Sto} {ρ : Env} {σ : L2.St}
theorem BrE.grow (g : Grow m H m' H') {d : D} {v : V} (h : BrE Γ m H d v) : BrE Γ m' H' d v := by
  cases d with
  | exc c w =>
    obtain ⟨a, dx, x, e, h1, ⟨fs, h2, hl⟩, h3, h4⟩ := h
    exact ⟨a, dx, x, e, h1, ⟨fs, g.keep dx _ h2 h3 (fun ps z => by cases z), hl⟩, g.out ⟨_, h2, fun ps z => by cases z⟩ h3, Br.grow g _ _ h4⟩
  | lam =>
    obtain ⟨a, e, h1, h2⟩ := h
    exact ⟨a, e, h1, h2.trans g⟩
  | _ => exact Br.grow g _ _ h
theorem EnvOk.grow (g : Grow m H m' H') (h : EnvOk Γ m H ρ σ) : EnvOk Γ m' H' ρ σ := ⟨h.len, fun i d e => by
  obtain ⟨v, h1, h2⟩ := h.sl i d e
  exact ⟨v, h1, h2.grow g⟩⟩
theorem BrE.of {d : D} {v : V} (h : Γ.br m H d v) : BrE Γ m H d v := by
  cases d with
  | exc c w => exact (show False by simpa only [Cg.br, Br] using h).elim
  | lam => exact (show False by simpa only [Cg.br, Br] using h).elim
  | _ => exact h
theorem EnvOk.set (h : EnvOk Γ m H ρ σ) (i : Nat) {d : D} {v : V} (hv : BrE Γ m H d v) : EnvOk Γ m H (ρ.set i (some d)) (σ.set i (some v)) := ⟨by rw [List.length_set, List.length_set]; exact h.len, fun j x e => by
  by_cases hj : i = j
  · subst hj
    by_cases q : i < ρ.length
    · rw [List.getElem?_set_self q] at e
      cases e
      exact ⟨v, List.getElem?_set_self (Nat.lt_of_lt_of_le q h.len), hv⟩
    · rw [List.getElem?_eq_none (by simpa using q)] at e
      cases e
  · rw [List.getElem?_set_ne hj] at e
    obtain ⟨u, h1, h2⟩ := h.sl j x e
    exact ⟨u, by rw [List.getElem?_set_ne hj]; exact h1, h2⟩⟩
theorem EnvOk.unset (h : EnvOk Γ m H ρ σ) (i : Nat) (y : Option V) : EnvOk Γ m H (ρ.set i none) (σ.set i y) := ⟨by rw [List.length_set, List.length_set]; exact h.len, fun j x e => by
  by_cases hj : i = j
  · subst hj
    by_cases q : i < ρ.length
    · rw [List.getElem?_set_self q] at e
      cases e
    · rw [List.getElem?_eq_none (by simpa using q)] at e
      cases e
  · rw [List.getElem?_set_ne hj] at e
    obtain ⟨u, h1, h2⟩ := h.sl j x e
    exact ⟨u, by rw [List.getElem?_set_ne hj]; exact h1, h2⟩⟩
/-- the store's objects stand -/
theorem StOk.live (st : StOk Γ m S H) {a : Addr} (h : a ∈ m) : NT H a := by
  obtain ⟨n, hn⟩ := List.getElem?_of_mem h
  have hl : n < S.length := by
    rw [← st.len]
    exact (List.getElem?_eq_some_iff.mp hn).1
  have ho := st.obj n a S[n] hn (by simp [hl])
  cases q : S[n] with
  | lst l =>
    rw [q] at ho
    obtain ⟨vs, e, _⟩ := ho
    exact ⟨_, e, fun ps z => by cases z⟩
  | ins c fs =>
    rw [q] at ho
    exact (show False from ho).elim
theorem StOk.lst (st : StOk Γ m S H) {n : Nat} {a : Addr} {l : List D} (h : m[n]? = some a) (hs : S[n]? = some (.lst l)) : ∃ vs, H a = some (.lst vs) ∧ Γ.brl m H l vs := st.obj n a _ h hs
/-- a new object that is no part of the store -/
theorem Grow.new {p : Addr} {o : HO} (hp : H p = none) : Grow m H m (upd H p o) :=
  ⟨⟨[], by simp, fun _ h => by simp at h⟩, fun b x h _ _ => by rw [upd_ne (ne_of_none h hp)]; exact h, fun b ⟨x, h, n⟩ => ⟨x, by rw [upd_ne (ne_of_none h hp)]; exact h, n⟩⟩
theorem OOk.grow (g : Grow m H m' H') {a : Addr} {o : O} (h : OOk Γ m H a o) (hk : H' a = H a) : OOk Γ m' H' a o := by
  cases o with
  | lst l =>
    obtain ⟨vs, e, hl⟩ := h
    exact ⟨vs, by rw [hk]; exact e, BrL.grow g l vs hl⟩
  | ins c fs => exact h
theorem StOk.new (st : StOk Γ m S H) {p : Addr} {o : HO} (hp : H p = none) : StOk Γ m S (upd H p o) := by
  have sm : ∀ b u, H b = some u → upd H p o b = some u := fun b u h => by rw [upd_ne (ne_of_none h hp)]; exact h
  refine ⟨st.len, st.nd, st.hidm, fun a h => (Grow.new (m := m) hp).there a (st.hids a h), fun n a x h1 h2 => (st.obj n a x h1 h2).grow (Grow.new hp) ?_, st.tabs.ext sm⟩
  exact upd_ne fun e => (st.live (List.mem_of_getElem? h1)).ne (by rw [e]; exact hp)
theorem StOk.notIn (st : StOk Γ m S H) {p : Addr} (hp : H p = none) : p ∉ m ∧ p ∉ Γ.hid :=
  ⟨fun h => (st.live h).ne hp, fun h => (st.hids p h).ne hp⟩
/-- a new list of the store -/
theorem Grow.cell {p : Addr} {o : HO} (hp : H p = none) : Grow m H (m ++ [p]) (upd H p o) :=
  ⟨⟨[p], rfl, fun a h z => by rw [List.mem_singleton.mp h] at z; exact z.ne hp⟩, (Grow.new (m := m) hp).keep, (Grow.new (m := m) hp).there⟩
theorem StOk.cell (st : StOk Γ m S H) {p : Addr} {l : List D} {vs : List V} (hp : H p = none) (h : Γ.brl m H l vs) : StOk Γ (m ++ [p]) (S ++ [.lst l]) (upd H p (.lst vs)) := by
  have sm : ∀ b u, H b = some u → upd H p (.lst vs) b = some u := fun b u h => by rw [upd_ne (ne_of_none h hp)]; exact h
  have g : Grow m H (m ++ [p]) (upd H p (.lst vs)) := Grow.cell hp
  obtain ⟨n1, n2⟩ := st.notIn hp
  refine ⟨by rw [List.length_append, List.length_append, st.len]; rfl, List.nodup_append.mpr ⟨st.nd, by simp, fun a ha b hb => ?_⟩, fun a h z => ?_, fun a h => g.there a (st.hids a h), fun n a x h1 h2 => ?_, st.tabs.ext sm⟩
  · rw [List.mem_singleton.mp hb]
    intro e
    rw [e] at ha
    exact n1 ha
  · rcases List.mem_append.mp z with q | q
    · exact st.hidm a h q
    · rw [List.mem_singleton.mp q] at h
      exact n2 h
  · by_cases q : n < m.length
    · rw [List.getElem?_append_left q] at h1
      rw [List.getElem?_append_left (by rw [← st.len]; exact q)] at h2
      exact (st.obj n a x h1 h2).grow g (upd_ne fun e => (st.live (List.mem_of_getElem? h1)).ne (by rw [e]; exact hp))
    · rw [List.getElem?_append_right (by omega)] at h1
      rw [List.getElem?_append_right (by rw [← st.len]; omega), ← st.len] at h2
      cases e : n - m.length with
      | zero =>
        rw [e] at h1 h2
        simp at h1 h2
        subst h1 h2
        exact ⟨vs, upd_same, BrL.grow g l vs h⟩
      | succ k =>
        rw [e] at h1
        simp at h1
/-- a list of the store is written -/
theorem Grow.write {a : Addr} {o : HO} (ha : a ∈ m) (ho : ∀ ps, o ≠ .tbl ps) : Grow m H m (upd H a o) :=
  ⟨⟨[], by simp, fun _ h => by simp at h⟩, fun b x h n _ => by rw [upd_ne (fun e => n (by rw [e]; exact ha))]; exact h, fun b h => by
    by_cases e : b = a
    · exact ⟨o, by rw [e, upd_same], ho⟩
    · obtain ⟨x, h, n⟩ := h
      exact ⟨x, by rw [upd_ne e]; exact h, n⟩⟩
theorem lst_nt {vs : List V} (ps : Array Value) : HO.lst vs ≠ .tbl ps := fun z => by cases z
theorem StOk.write (st : StOk Γ m S H) {n : Nat} {a : Addr} {l l' : List D} {vs : List V} (h1 : m[n]? = some a) (h2 : S[n]? = some (.lst l)) (h : Γ.brl m H l' vs) : StOk Γ m (S.set n (.lst l')) (upd H a (.lst vs)) := by
  have ha : a ∈ m := List.mem_of_getElem? h1
  have g : Grow m H m (upd H a (.lst vs)) := Grow.write ha lst_nt
  obtain ⟨us, hu, _⟩ := st.lst h1 h2
  refine ⟨by rw [List.length_set]; exact st.len, st.nd, st.hidm, fun b hb => g.there b (st.hids b hb), fun k b x k1 k2 => ?_, fun p hp => ?_⟩
  · by_cases q : n = k
    · subst q
      rw [h1] at k1
      cases k1
      have hl : n < S.length := (List.getElem?_eq_some_iff.mp h2).1
      rw [List.getElem?_set_self hl] at k2
      cases k2
      exact ⟨vs, upd_same, BrL.grow g l' vs h⟩
    · rw [List.getElem?_set_ne q] at k2
      refine (st.obj k b x k1 k2).grow g (upd_ne fun e => q ?_)
      subst e
      obtain ⟨i1, e1⟩ := List.getElem?_eq_some_iff.mp h1
      obtain ⟨i2, e2⟩ := List.getElem?_eq_some_iff.mp k1
      exact (List.getElem_inj st.nd).mp (e1.trans e2.symm)
  · obtain ⟨ps, a1, a2, a3⟩ := st.tabs p hp
    refine ⟨ps, by rw [upd_ne (ne_of a1 hu (by intro z; cases z))]; exact a1, a2, fun pos cv hc => ?_⟩
    obtain ⟨c, e1, e2⟩ := a3 pos cv hc
    exact ⟨c, e1, by rw [upd_ne (ne_of e2 hu (by intro z; unfold LamX.CodeO at z; cases z))]; exact e2⟩
end
end Bh

set_option Elab.async false
set_option linter.all false
set_option maxRecDepth 10000
/-! Bh: operators, comparisons, built-ins by values. -/
namespace Bh
open PySem PySem.Spec L2
/-- what an answer d, told in the store S, gives -/
def Gives (Γ : Cg) (m : List Addr) (S : Sto) (H : Hp) (d : D) (Q : VK) : Prop := ∀ m' H' v, Grow m H m' H' → StOk Γ m' S H' → Γ.br m' H' d v → Q v H'
section
variable {Γ : Cg} {m : List Addr} {S : Sto} {H : Hp} {Q : VK}
theorem Gives.val {d : D} {v : V} (g : Gives Γ m S H d Q) (st : StOk Γ m S H) (h : Γ.br m H d v) : Q v H := g m H v .refl st h
theorem Gives.int {i : Int} (g : Gives Γ m S H (.int i) Q) (st : StOk Γ m S H) : Q (.int i) H := g.val st (by simp [Cg.br, Br])
theorem Gives.bl {i : Bool} (g : Gives Γ m S H (.bl i) Q) (st : StOk Γ m S H) : Q (.bl i) H := g.val st (by simp [Cg.br, Br])
theorem Gives.str {i : Str} (g : Gives Γ m S H (.str i) Q) (st : StOk Γ m S H) : Q (.str i) H := g.val st (by simp [Cg.br, Br])
theorem Gives.tup {l : List D} {vs : List V} (g : Gives Γ m S H (.tup l) Q) (st : StOk Γ m S H) (h : Γ.brl m H l vs) {p : Addr} (hp : H p = none) : Q (.ref p) (upd H p (.tup vs)) := by
  obtain ⟨n1, n2⟩ := st.notIn hp
  have gr : Grow m H m (upd H p (.tup vs)) := .new hp
  exact g m _ _ gr (st.new hp) (Br.newTup upd_same n2 n1 (BrL.grow gr l vs h))
theorem Gives.lst {l : List D} {vs : List V} (g : Gives Γ m S H (.lst l) Q) (st : StOk Γ m S H) (h : Γ.brl m H l vs) {p : Addr} (hp : H p = none) : Q (.ref p) (upd H p (.lst vs)) := by
  obtain ⟨n1, n2⟩ := st.notIn hp
  have gr : Grow m H m (upd H p (.lst vs)) := .new hp
  exact g m _ _ gr (st.new hp) (Br.newLst upd_same n2 n1 (BrL.grow gr l vs h))
theorem brInt {i : Int} {v : V} (h : Γ.br m H (.int i) v) : v = .int i := by simpa [Cg.br, Br] using h
theorem brBl {i : Bool} {v : V} (h : Γ.br m H (.bl i) v) : v = .bl i := by simpa [Cg.br, Br] using h
theorem brStr {i : Str} {v : V} (h : Γ.br m H (.str i) v) : v = .str i := by simpa [Cg.br, Br] using h
theorem brNon {v : V} (h : Γ.br m H .non v) : v = .non := by simpa [Cg.br, Br] using h
/-- the list of what a sequence holds, as it lies -/
theorem items_at {d : D} {v : V} {l : List D} (st : StOk Γ m S H) (h : Γ.br m H d v) (e : items d S = some l) : ∃ a vs, v = .ref a ∧ (SqL Γ.K H a vs ∨ SqT Γ.K H a vs) ∧ Γ.brl m H l vs := by
  cases d with
  | tup l' =>
    cases e
    obtain ⟨a, vs, e1, h1, h2⟩ := Br.tup h
    exact ⟨a, vs, e1, .inr h1, h2⟩
  | lst l' =>
    cases e
    obtain ⟨a, vs, e1, h1, h2⟩ := Br.lst h
    exact ⟨a, vs, e1, .inl (.inl (.inl h1)), h2⟩
  | frz l' =>
    cases e
    obtain ⟨a, vs, e1, h1, h2⟩ := Br.frz h
    exact ⟨a, vs, e1, .inl h1, h2⟩
  | ref n =>
    have h' : ∃ a, m[n]? = some a ∧ v = .ref a := by simpa [Cg.br, Br] using h
    obtain ⟨a, h1, h2⟩ := h'
    simp only [items] at e
    split at e
    · rename_i l' q
      cases e
      obtain ⟨vs, h3, h4⟩ := st.lst h1 q
      exact ⟨a, vs, h2, .inl (.inl (.inl h3)), h4⟩
    · cases e
  | _ => cases e
/-- a tuple, or a list -/
theorem items_two {d : D} {v : V} {l : List D} (st : StOk Γ m S H) (h : Γ.br m H d v) (e : items d S = some l) : (d = .tup l) ∧ True ∨ ∃ a vs, v = .ref a ∧ SqL Γ.K H a vs ∧ Γ.brl m H l vs := by
  cases d with
  | tup l' =>
    cases e
    exact .inl ⟨rfl, True.intro⟩
  | lst l' =>
    cases e
    obtain ⟨a, vs, e1, h1, h2⟩ := Br.lst h
    exact .inr ⟨a, vs, e1, .inl (.inl h1), h2⟩
  | frz l' =>
    cases e
    obtain ⟨a, vs, e1, h1, h2⟩ := Br.frz h
    exact .inr ⟨a, vs, e1, h1, h2⟩
  | ref n =>
    have h' : ∃ a, m[n]? = some a ∧ v = .ref a := by simpa [Cg.br, Br] using h
    obtain ⟨a, h1, h2⟩ := h'
    simp only [items] at e
    split at e
    · rename_i l' q
      cases e
      obtain ⟨vs, h3, h4⟩ := st.lst h1 q
      exact .inr ⟨a, vs, h2, .inl (.inl h3), h4⟩
    · cases e
  | _ => cases e
theorem Gives.cell {l : List D} {vs : List V} (g : Gives Γ m (S ++ [.lst l]) H (.ref S.length) Q) (st : StOk Γ m S H) (h : Γ.brl m H l vs) {p : Addr} (hp : H p = none) : Q (.ref p) (upd H p (.lst vs)) := by
  refine g _ _ _ (Grow.cell hp) (st.cell hp h) ?_
  simp only [Cg.br, Br]
  exact ⟨p, by rw [← st.len, List.getElem?_append_right (Nat.le_refl _)]; simp, rfl⟩
end
def bop : BOp → Operator
  | .add => .Add | .sub => .Sub | .mul => .Mult | .fdiv => .FloorDiv | .mod => .Mod | .pow => .Pow
def cop : COp → CmpOp
  | .eq => .Eq | .ne => .NotEq | .lt => .Lt | .le => .LtE | .gt => .Gt | .ge => .GtE | .isin => .In | .notin => .NotIn | .is_ => .Is | .isnot => .IsNot
def rB (Γ : Cg) (op : BOp) : R2 := fun x y H Q => ∃ m S a b d, StOk Γ m S H ∧ Γ.br m H a x ∧ Γ.br m H b y ∧ binop op a b = some d ∧ Gives Γ m S H d Q
section
variable {Γ : Cg} {X : Cx}
theorem opB_ok (hk : Γ.K = X.K) (op : BOp) : OpR X (binaryOp (bop op)) (rB Γ op) := by
  intro pins s σ H x y v u Q I rx ry h
  obtain ⟨m, S, a, b, d, st, ba, bb, e, g⟩ := h
  unfold binop at e
  split at e
  · cases e
    exact op_add pins s σ H x y v u Q I rx ry ⟨_, _, brInt ba, brInt bb, g.int st⟩
  · split at e
    · cases e
      exact op_add_str pins s σ H x y v u Q I rx ry ⟨_, _, brStr ba, brStr bb, by rw [sizeLine_eq]; assumption, g.str st⟩
    · cases e
  · split at e
    · rename_i hz
      cases e
      obtain ⟨p, xs, ep, hp, lp⟩ := Br.tup ba
      obtain ⟨q, ys, eq, hq, lq⟩ := Br.tup bb
      have l1 := lp.length
      have l2 := lq.length
      rw [hk] at hp hq
      refine op_catA pins s σ H x y v u Q I rx ry ⟨p, q, xs, ys, ep, eq, hp, hq, by rw [sizeLine_eq]; omega, fun z => ?_, fun _ z => ?_, fun _ _ r hr => ?_⟩
      · subst z
        have e0 := List.eq_nil_of_length_eq_zero l1
        subst e0
        rw [← eq]
        exact g.val st bb
      · subst z
        have e0 := List.eq_nil_of_length_eq_zero l2
        subst e0
        rw [← ep]
        rw [List.append_nil] at g
        exact g.val st ba
      · exact g.tup st (lp.app lq) hr
    · cases e
  · split at e
    · rename_i hz
      cases e
      obtain ⟨p, xs, ep, hp, lp⟩ := Br.lst ba
      obtain ⟨q, ys, eq, hq, lq⟩ := Br.lst bb
      have l1 := lp.length
      have l2 := lq.length
      exact op_cat pins s σ H x y v u Q I rx ry ⟨p, q, xs, ys, ep, eq, hp, hq, by rw [sizeLine_eq]; omega, fun r hr => g.lst st (lp.app lq) hr⟩
    · cases e
  · cases e
    exact op_sub pins s σ H x y v u Q I rx ry ⟨_, _, brInt ba, brInt bb, g.int st⟩
  · split at e
    · rename_i hz
      cases e
      exact op_mul pins s σ H x y v u Q I rx ry ⟨_, _, brInt ba, brInt bb, hz, g.int st⟩
    · cases e
  · split at e
    · rename_i l kk hz
      cases e
      obtain ⟨p, xs, ep, hp, lp⟩ := Br.tup ba
      have l1 := lp.length
      rw [hk] at hp
      have hne : xs ≠ [] := by intro z; subst z; rw [l1] at hz; simp at hz
      by_cases k1 : (2 : Int) ≤ kk
      · exact op_repT pins s σ H x y v u Q I rx ry ⟨p, _, xs, ep, brInt bb, hp, hne, k1, hz.2.1, by omega, fun r hr => g.tup st (lp.repl _) hr⟩
      · by_cases k2 : kk = (1 : Int)
        · rw [k2] at g bb
          refine op_repS pins s σ H x y v u Q I rx ry ⟨p, _, xs, ep, brInt bb, hp, .inl ⟨rfl, ?_⟩⟩
          rw [← ep]
          have e1 : (List.replicate (1 : Int).toNat l).flatten = l := List.append_nil _
          rw [e1] at g
          exact g.val st ba
        · refine op_repS pins s σ H x y v u Q I rx ry ⟨p, _, xs, ep, brInt bb, hp, .inr ⟨hne, hz.1, by omega, fun r hr => ?_⟩⟩
          rw [show kk.toNat = 0 by omega] at g
          exact g.tup st (l := []) (by simp [Cg.brl, BrL]) hr
    · cases e
  · split at e
    · rename_i l k hz
      cases e
      obtain ⟨p, xs, ep, hp, lp⟩ := Br.lst ba
      have l1 := lp.length
      refine op_rep pins s σ H x y v u Q I rx ry ⟨p, _, xs, ep, brInt bb, hp, by omega, by omega, ?_, fun r hr => g.lst st (lp.repl _) hr⟩
      rw [sizeLine_eq]
      have a1 : xs.length * k.toNat ≤ 1000 * 1000 := Nat.mul_le_mul (by omega) (by omega)
      omega
    · cases e
  · split at e
    · rename_i hz
      cases e
      exact op_fdiv pins s σ H x y v u Q I rx ry ⟨_, _, brInt ba, brInt bb, hz, g.int st⟩
    · cases e
  · split at e
    · rename_i hz
      cases e
      exact op_mod pins s σ H x y v u Q I rx ry ⟨_, _, brInt ba, brInt bb, hz, g.int st⟩
    · cases e
  · split at e
    · rename_i hz
      cases e
      exact op_pow pins s σ H x y v u Q I rx ry ⟨_, _, brInt ba, brInt bb, hz, g.int st⟩
    · cases e
  · cases e
end
end Bh

set_option Elab.async false
set_option linter.all false
set_option maxRecDepth 10000
namespace Bh
open PySem PySem.Spec L2
section
variable {Γ : Cg} {m : List Addr} {S : Sto} {H : Hp}
mutual
/-- data as the library's own -/
theorem dp_of : ∀ (d : D) (p : PyData) (v : V), toP d = some p → Γ.br m H d v → Dp Γ.K H v p
  | .non, p, v, e, h => by
    cases e
    rw [brNon h]
    exact .non
  | .bl b, p, v, e, h => by
    cases e
    rw [brBl h]
    exact .bl b
  | .int i, p, v, e, h => by
    cases e
    rw [brInt h]
    exact .int i
  | .str s, p, v, e, h => by
    cases e
    rw [brStr h]
    exact .str s
  | .tup l, p, v, e, h => by
    rw [toP] at e
    obtain ⟨ps, e1, e2⟩ := Option.map_eq_some_iff.mp e
    subst e2
    obtain ⟨a, vs, rfl, h1, h2⟩ := Br.tup h
    exact .tup h1 (dps_of l ps vs e1 h2)
  | .lst l, p, v, e, h => by
    rw [toP] at e
    obtain ⟨ps, e1, e2⟩ := Option.map_eq_some_iff.mp e
    subst e2
    obtain ⟨a, vs, rfl, h1, h2⟩ := Br.lst h
    exact .lst (.inl (.inl h1)) (dps_of l ps vs e1 h2)
  | .frz l, p, v, e, h => by
    rw [toP] at e
    obtain ⟨ps, e1, e2⟩ := Option.map_eq_some_iff.mp e
    subst e2
    obtain ⟨a, vs, rfl, h1, h2⟩ := Br.frz h
    exact .lst h1 (dps_of l ps vs e1 h2)
  | .ref _, p, v, e, h => by cases e
  | .exc _ _, p, v, e, h => by cases e
  | .lam, p, v, e, h => by cases e
theorem dps_of : ∀ (l : List D) (ps : List PyData) (vs : List V), toPs l = some ps → Γ.brl m H l vs → DpAll Γ.K H vs ps
  | [], ps, vs, e, h => by
    cases e
    have h' : vs = [] := by simpa [Cg.brl, BrL] using h
    rw [h']
    exact .nil
  | d :: l, ps, vs, e, h => by
    rw [toPs] at e
    have h' : ∃ v r, vs = v :: r ∧ Γ.br m H d v ∧ Γ.brl m H l r := by simpa [Cg.brl, BrL] using h
    obtain ⟨v, r, rfl, h1, h2⟩ := h'
    split at e
    · rename_i p qs e1 e2
      cases e
      exact .cons (dp_of d p v e1 h1) (dps_of l qs r e2 h2)
    · cases e
end
theorem flatV_of {d : D} {v : V} (h : Γ.br m H d v) (f : flatD d = true) : flatV v = true := by
  cases d with
  | non => rw [brNon h]; rfl
  | bl b => rw [brBl h]; rfl
  | int i => rw [brInt h]; rfl
  | str s => rw [brStr h]; rfl
  | _ => cases f
theorem eqV_of {a b : D} {v u : V} (h : Γ.br m H a v) (k : Γ.br m H b u) (f : flatD a = true) (g : flatD b = true) : eqV v u = eqF a b := by
  cases a <;> first | (cases f; done) | skip
  all_goals (cases b <;> first | (cases g; done) | skip)
  all_goals (first | (rw [brNon h]) | (rw [brBl h]) | (rw [brInt h]) | (rw [brStr h]))
  all_goals (first | (rw [brNon k]) | (rw [brBl k]) | (rw [brInt k]) | (rw [brStr k]))
  all_goals rfl
theorem inV_of {x : D} {v : V} (h : Γ.br m H x v) (f : flatD x = true) : ∀ {l : List D} {vs : List V}, Γ.brl m H l vs → l.all flatD = true → (vs.all flatV = true ∧ inV v vs = l.any fun y => eqF y x)
  | [], vs, hl, _ => by
    have h' : vs = [] := by simpa [Cg.brl, BrL] using hl
    rw [h']
    exact ⟨rfl, rfl⟩
  | d :: l, vs, hl, g => by
    have h' : ∃ v r, vs = v :: r ∧ Γ.br m H d v ∧ Γ.brl m H l r := by simpa [Cg.brl, BrL] using hl
    obtain ⟨u, r, rfl, h1, h2⟩ := h'
    obtain ⟨g1, g2⟩ := Bool.and_eq_true_iff.mp (show (flatD d && l.all flatD) = true from g)
    obtain ⟨a1, a2⟩ := inV_of h f h2 g2
    refine ⟨?_, ?_⟩
    · show (flatV u && r.all flatV) = true
      rw [flatV_of h1 g1, a1]
      rfl
    · show (eqV u v || inV v r) = (eqF d x || l.any fun y => eqF y x)
      rw [a2, eqV_of h1 h g1 f]
theorem truV_of {d : D} {v : V} {b : Bool} (st : StOk Γ m S H) (h : Γ.br m H d v) (e : truthy d S = some b) : TruV Γ.K v H b := by
  have emp : ∀ {l : List D} {vs : List V}, Γ.brl m H l vs → (!l.isEmpty) = !vs.isEmpty := fun {l vs} k => by
    have := BrL.length k
    cases l <;> cases vs <;> first | rfl | (simp at this)
  cases d with
  | non => rw [brNon h]; cases e; rfl
  | bl b => rw [brBl h]; cases e; rfl
  | int i => rw [brInt h]; cases e; rfl
  | tup l =>
    obtain ⟨a, vs, rfl, h1, h2⟩ := Br.tup h
    cases e
    exact .inr (.inl ⟨vs, h1, emp h2⟩)
  | lst l =>
    obtain ⟨a, vs, rfl, h1, h2⟩ := Br.lst h
    cases e
    exact .inl ⟨vs, .inl (.inl h1), emp h2⟩
  | frz l =>
    obtain ⟨a, vs, rfl, h1, h2⟩ := Br.frz h
    cases e
    exact .inl ⟨vs, h1, emp h2⟩
  | ref n =>
    have h' : ∃ a, m[n]? = some a ∧ v = .ref a := by simpa [Cg.br, Br] using h
    obtain ⟨a, h1, rfl⟩ := h'
    simp only [truthy] at e
    split at e
    · rename_i l q
      cases e
      obtain ⟨vs, h3, h4⟩ := st.lst h1 q
      exact .inl ⟨vs, .inl (.inl h3), emp h4⟩
    · cases e
  | _ => cases e
def tyN : Ty → String
  | .int => "int" | .bool => "bool" | .str => "str" | .tuple => "tuple" | .list => "list"
theorem tyX_of {d : D} {v : V} {t : Ty} {b : Bool} (h : Γ.br m H d v) (e : isTy d t = some b) : ∃ T : String, TyX Γ.K H v (.type T) ∧ kitB T (tyN t) = some b := by
  cases d with
  | non => rw [brNon h]; cases e; exact ⟨"NoneType", .base .non, by cases t <;> decide +kernel⟩
  | bl x =>
    rw [brBl h]
    refine ⟨"bool", .base (.bl x), ?_⟩
    cases t <;> (cases e; decide +kernel)
  | int i =>
    rw [brInt h]
    refine ⟨"int", .base (.int i), ?_⟩
    cases t <;> (cases e; decide +kernel)
  | str s =>
    rw [brStr h]
    refine ⟨"str", .base (.str s), ?_⟩
    cases t <;> (cases e; decide +kernel)
  | tup l =>
    obtain ⟨a, vs, rfl, h1, h2⟩ := Br.tup h
    refine ⟨"tuple", ?_, by cases t <;> (cases e; decide +kernel)⟩
    rcases h1 with (h1 | ⟨o, h1⟩) | ⟨o, its, n, hk, hc, _⟩
    · exact .base (.tup h1)
    · exact .fTuple h1
    · exact .kTuple hk hc
  | lst l =>
    obtain ⟨a, vs, rfl, h1, h2⟩ := Br.lst h
    exact ⟨"list", .base (.lst h1), by cases t <;> (cases e; decide +kernel)⟩
  | frz l =>
    obtain ⟨a, vs, rfl, h1, h2⟩ := Br.frz h
    refine ⟨"list", ?_, by cases t <;> (cases e; decide +kernel)⟩
    rcases h1 with (h1 | ⟨o, h1⟩) | ⟨o, its, n, hk, hc, _⟩
    · exact .base (.lst h1)
    · exact .base (.frz h1)
    · exact .kList hk hc
  | _ => cases t <;> cases e
theorem nums_of : ∀ {l : List D} {ns : List Int} {vs : List V}, numsOf l = some ns → Γ.brl m H l vs → vs = ns.map V.int
  | [], ns, vs, e, h => by
    cases e
    simpa [Cg.brl, BrL] using h
  | d :: l, ns, vs, e, h => by
    cases d with
    | int i =>
      simp only [numsOf] at e
      obtain ⟨r, e1, e2⟩ := Option.map_eq_some_iff.mp e
      subst e2
      have h' : ∃ v r, vs = v :: r ∧ Γ.br m H (.int i) v ∧ Γ.brl m H l r := by simpa [Cg.brl, BrL] using h
      obtain ⟨v, us, rfl, h1, h2⟩ := h'
      rw [brInt h1, nums_of e1 h2]
      rfl
    | _ => cases e
theorem bools_of : ∀ {l : List D} {ns : List Bool} {vs : List V}, boolsOf l = some ns → Γ.brl m H l vs → vs.map truS = ns.map some
  | [], ns, vs, e, h => by
    cases e
    have h' : vs = [] := by simpa [Cg.brl, BrL] using h
    rw [h']
    rfl
  | d :: l, ns, vs, e, h => by
    have h' : ∃ v r, vs = v :: r ∧ Γ.br m H d v ∧ Γ.brl m H l r := by simpa [Cg.brl, BrL] using h
    obtain ⟨v, us, rfl, h1, h2⟩ := h'
    cases d with
    | bl i =>
      simp only [boolsOf] at e
      obtain ⟨r, e1, e2⟩ := Option.map_eq_some_iff.mp e
      subst e2
      rw [List.map_cons, List.map_cons, bools_of e1 h2, brBl h1]
      rfl
    | int i =>
      simp only [boolsOf] at e
      obtain ⟨r, e1, e2⟩ := Option.map_eq_some_iff.mp e
      subst e2
      rw [List.map_cons, List.map_cons, bools_of e1 h2, brInt h1]
      rfl
    | non =>
      simp only [boolsOf] at e
      obtain ⟨r, e1, e2⟩ := Option.map_eq_some_iff.mp e
      subst e2
      rw [List.map_cons, List.map_cons, bools_of e1 h2, brNon h1]
      rfl
    | _ => cases e
end
/-! ### comparisons -/
def rC (Γ : Cg) (op : COp) : R2 := fun x y H Q => ∃ m S a b d, StOk Γ m S H ∧ Γ.br m H a x ∧ Γ.br m H b y ∧ cmpop op a b S = some d ∧ Q (.bl d) H
section
variable {Γ : Cg} {X : Cx}
theorem eqV_ok (hk : Γ.K = X.K) (hu : X.A.units + 64 < cLine) {pins : List (Addr × Obj)} {s : Shared} {σ : L2.St} {H : Hp} {x y : V} {v u : Value} {m : List Addr} {S : Sto} {a b : D} {d : Bool} (I : Inv X pins σ H s) (rx : RelV x v) (ry : RelV y u)
    (ba : Γ.br m H a x) (bb : Γ.br m H b y) (e : eqD a b S = some d) :
    (∀ Q : VK, Q (.bl d) H → wpAny (model X.prog X.w) X.A (compareOp .Eq v u) (EP X pins σ Q) X.xe s) ∧ (∀ Q : VK, Q (.bl (!d)) H → wpAny (model X.prog X.w) X.A (compareOp .NotEq v u) (EP X pins σ Q) X.xe s) := by
  have sc : ∀ x' y', x = x' → y = y' → scal x' y' = true → decide (x' = y') = d → (∀ Q : VK, Q (.bl d) H → wpAny (model X.prog X.w) X.A (compareOp .Eq v u) (EP X pins σ Q) X.xe s) ∧ (∀ Q : VK, Q (.bl (!d)) H → wpAny (model X.prog X.w) X.A (compareOp .NotEq v u) (EP X pins σ Q) X.xe s) := by
    intro x' y' e1 e2 e3 e4
    subst e1 e2 e4
    exact ⟨fun Q q => op_eq pins s σ H _ _ v u Q I rx ry ⟨e3, q⟩, fun Q q => op_ne pins s σ H _ _ v u Q I rx ry ⟨e3, q⟩⟩
  unfold eqD at e
  split at e
  · cases e
    exact sc _ _ (brInt ba) (brInt bb) rfl dec_int
  · cases e
    exact sc _ _ (brBl ba) (brBl bb) rfl dec_bl
  · cases e
    exact sc _ _ (brStr ba) (brStr bb) rfl dec_str
  · cases e
    exact sc _ _ (brNon ba) (brNon bb) rfl rfl
  · split at e
    · rename_i p p' e1 e2
      split at e
      · rename_i e3
        obtain ⟨s1, s2⟩ := Bool.and_eq_true_iff.mp e3
        have d1 := dp_of a p x e1 ba
        have d2 := dp_of b p' y e2 bb
        rw [hk] at d1 d2
        cases e
        exact ⟨fun Q q => op_eqD hu pins s σ H x y v u Q I rx ry ⟨p, p', d1, d2, s1, s2, q⟩, fun Q q => op_neD hu pins s σ H x y v u Q I rx ry ⟨p, p', d1, d2, s1, s2, q⟩⟩
      · cases e
    · cases e
theorem isN_of {m : List Addr} {H : Hp} {a : D} {x : V} (h : Γ.br m H a x) : decide (x = .non) = isNon a := by
  cases a with
  | non => rw [brNon h]; rfl
  | bl b => rw [brBl h]; rfl
  | int b => rw [brInt h]; rfl
  | str b => rw [brStr h]; rfl
  | tup l => obtain ⟨a, vs, rfl, _⟩ := Br.tup h; rfl
  | lst l => obtain ⟨a, vs, rfl, _⟩ := Br.lst h; rfl
  | frz l => obtain ⟨a, vs, rfl, _⟩ := Br.frz h; rfl
  | ref n =>
    have h' : ∃ a, m[n]? = some a ∧ x = .ref a := by simpa [Cg.br, Br] using h
    obtain ⟨a, _, rfl⟩ := h'
    rfl
  | exc c w => exact (show False by simpa [Cg.br, Br] using h).elim
  | lam => exact (show False by simpa [Cg.br, Br] using h).elim
theorem opC_ok (hk : Γ.K = X.K) (hu : X.A.units + 64 < cLine) (op : COp) : OpR X (compareOp (cop op)) (rC Γ op) := by
  intro pins s σ H x y v u Q I rx ry h
  obtain ⟨m, S, a, b, d, st, ba, bb, e, q⟩ := h
  unfold cmpop at e
  split at e
  · exact (eqV_ok hk hu I rx ry ba bb e).1 Q q
  · obtain ⟨c, e1, e2⟩ := Option.map_eq_some_iff.mp e
    subst e2
    exact (eqV_ok hk hu I rx ry ba bb e1).2 Q q
  · cases e
    exact op_lt pins s σ H x y v u Q I rx ry ⟨_, _, brInt ba, brInt bb, q⟩
  · cases e
    exact op_le pins s σ H x y v u Q I rx ry ⟨_, _, brInt ba, brInt bb, q⟩
  · cases e
    exact op_gt pins s σ H x y v u Q I rx ry ⟨_, _, brInt ba, brInt bb, q⟩
  · cases e
    exact op_ge pins s σ H x y v u Q I rx ry ⟨_, _, brInt ba, brInt bb, q⟩
  · split at e
    · rename_i l e1
      obtain ⟨p, xs, ep, hp, lp⟩ := items_at st bb e1
      unfold inD at e
      split at e
      · rename_i f
        obtain ⟨f1, f2⟩ := Bool.and_eq_true_iff.mp f
        cases e
        obtain ⟨g1, g2⟩ := inV_of ba f1 lp f2
        rw [hk] at hp
        exact op_in_seq pins s σ H x y v u Q I rx ry ⟨p, xs, ep, hp, flatV_of ba f1, g1, by show Q (.bl (inV x xs)) H; rw [g2]; exact q⟩
      · cases e
    · cases e
  · split at e
    · rename_i l e1
      obtain ⟨p, xs, ep, hp, lp⟩ := items_at st bb e1
      unfold inD at e
      split at e
      · rename_i f
        obtain ⟨f1, f2⟩ := Bool.and_eq_true_iff.mp f
        cases e
        obtain ⟨g1, g2⟩ := inV_of ba f1 lp f2
        rw [hk] at hp
        exact op_notIn_seq pins s σ H x y v u Q I rx ry ⟨p, xs, ep, hp, flatV_of ba f1, g1, by show Q (.bl (!inV x xs)) H; rw [g2]; exact q⟩
      · cases e
    · cases e
  · cases e
    refine op_isN pins s σ H x y v u Q I rx ry ⟨brNon bb, ?_⟩
    rw [isN_of ba]
    exact q
  · cases e
    refine op_notN pins s σ H x y v u Q I rx ry ⟨brNon bb, ?_⟩
    rw [isN_of ba]
    exact q
  · cases e
end
end Bh

set_option Elab.async false
set_option linter.all false
set_option maxRecDepth 10000
namespace Bh
open PySem PySem.Spec L2 PyProof.Rows
def bfV : Bf → Value
  | .len => .builtin "len" | .int => .type "int" | .str => .type "str" | .abs => .builtin "abs" | .max2 => .builtin "max" | .min2 => .builtin "min" | .tuple => .type "tuple" | .list => .type "list" | .listM => .type "list"
  | .sum => .builtin "sum" | .maxL => .builtin "max" | .minL => .builtin "min" | .sorted => .builtin "sorted" | .any => .builtin "any" | .all => .builtin "all" | .repr => .builtin "repr" | .gcd => .builtin "math.gcd" | .isI _ => .builtin "isinstance"
theorem maxI_ok : ∀ (l : List Int), l ≠ [] → maxI l ∈ l ∧ ∀ y ∈ l, y ≤ maxI l
  | [], h => absurd rfl h
  | [x], _ => ⟨by simp [maxI], fun y hy => by simp [maxI] at hy ⊢; omega⟩
  | x :: z :: l, _ => by
    obtain ⟨h1, h2⟩ := maxI_ok (z :: l) (by simp)
    simp only [maxI]
    refine ⟨?_, fun y hy => ?_⟩
    · by_cases q : maxI (z :: l) ≤ x
      · rw [Int.max_eq_left q]; exact List.mem_cons_self
      · rw [Int.max_eq_right (by omega)]; exact List.mem_cons_of_mem _ h1
    · rcases List.mem_cons.mp hy with e | e
      · rw [e]; exact Int.le_max_left _ _
      · exact Int.le_trans (h2 y e) (Int.le_max_right _ _)
theorem minI_ok : ∀ (l : List Int), l ≠ [] → minI l ∈ l ∧ ∀ y ∈ l, minI l ≤ y
  | [], h => absurd rfl h
  | [x], _ => ⟨by simp [minI], fun y hy => by simp [minI] at hy ⊢; omega⟩
  | x :: z :: l, _ => by
    obtain ⟨h1, h2⟩ := minI_ok (z :: l) (by simp)
    simp only [minI]
    refine ⟨?_, fun y hy => ?_⟩
    · by_cases q : x ≤ minI (z :: l)
      · rw [Int.min_eq_left q]; exact List.mem_cons_self
      · rw [Int.min_eq_right (by omega)]; exact List.mem_cons_of_mem _ h1
    · rcases List.mem_cons.mp hy with e | e
      · rw [e]; exact Int.min_le_left _ _
      · exact Int.le_trans (Int.min_le_right _ _) (h2 y e)
section
variable {Γ : Cg} {X : Cx}
def rF (Γ : Cg) (b : Bf) : List V → Hp → VK → Prop := fun xs H Q => ∃ m S ds d S', StOk Γ m S H ∧ Γ.brl m H ds xs ∧ callB b ds S = .ok d S' ∧ Gives Γ m S' H d Q
theorem brl1 {m : List Addr} {H : Hp} {d : D} {xs : List V} (h : Γ.brl m H [d] xs) : ∃ v, xs = [v] ∧ Γ.br m H d v := by
  have h' : ∃ v r, xs = v :: r ∧ Γ.br m H d v ∧ Γ.brl m H [] r := by simpa [Cg.brl, BrL] using h
  obtain ⟨v, r, rfl, h1, h2⟩ := h'
  have h3 : r = [] := by simpa [Cg.brl, BrL] using h2
  subst h3
  exact ⟨v, rfl, h1⟩
theorem brl2 {m : List Addr} {H : Hp} {d e : D} {xs : List V} (h : Γ.brl m H [d, e] xs) : ∃ v u, xs = [v, u] ∧ Γ.br m H d v ∧ Γ.br m H e u := by
  have h' : ∃ v r, xs = v :: r ∧ Γ.br m H d v ∧ Γ.brl m H [e] r := by
    have := h
    rw [Cg.brl, BrL] at this
    exact this
  obtain ⟨v, r, rfl, h1, h2⟩ := h'
  obtain ⟨u, rfl, h3⟩ := brl1 h2
  exact ⟨v, u, rfl, h1, h3⟩
theorem opt_ok {α : Type} {o : Option α} {S S' : Sto} {a : α} (e : opt o S = .ok a S') : o = some a ∧ S' = S := by
  cases o with
  | none => cases e
  | some b => cases e; exact ⟨rfl, rfl⟩
theorem reprs_ok (hk : Γ.K = X.K) (hg : X.A.guards = some []) (hu : X.A.units + 80 < cLine) {pins : List (Addr × Obj)} {s : Shared} {σ : L2.St} {H : Hp} {x : V} {u : Value} {Q : VK} {m : List Addr} {a : D} {t : Str} (I : Inv X pins σ H s) (rx : RelV x u)
    (ba : Γ.br m H a x) (e : reprD a = some t) (q : Q (.str t) H) : wpAny (model X.prog X.w) X.A (call (.builtin "repr") [u]) (EP X pins σ Q) X.xe s := by
  unfold reprD at e
  split at e
  · rename_i p e1
    split at e
    · rename_i e2
      cases e
      obtain ⟨e3, e6⟩ := Bool.and_eq_true_iff.mp e2
      obtain ⟨e4, e5⟩ := Bool.and_eq_true_iff.mp e3
      have e7 : p.shown.length ≤ 16777216 := of_decide_eq_true e6
      have gen : ∀ (r : Addr), u = .ref r → wpAny (model X.prog X.w) X.A (call (.builtin "repr") [u]) (EP X pins σ Q) X.xe s := fun r er => by
        have dd := dp_of a p x e1 ba
        rw [hk] at dd
        obtain ⟨as, rd⟩ := Dp.reads I p x u dd rx
        subst er
        have hd := SeqAt.depth_of_shaped e5
        have hl := PyData.hasDict_of_canLay p (SeqAt.canLay_of_shaped e5)
        exact repr_of_reads' rd e4 (PyData.noDict_hsm hl) hg (by omega) (fun _ _ z => z) (fun h' uu tk k => ⟨.str p.shown, H, I.kept (t' := tk) k, ⟨_, rfl⟩, q⟩) (by rw [sizeLine_eq]; exact e7)
      cases a with
      | non =>
        rw [brNon ba] at rx
        cases e1
        cases (show u = Value.none from rx)
        exact PySem.P.repr_of_none ⟨.str _, H, I.tok _, ⟨_, rfl⟩, q⟩
      | bl b =>
        rw [brBl ba] at rx
        cases e1
        cases (show u = Value.bool b from rx)
        exact PySem.P.repr_of_bool ⟨.str _, H, I.tok _, ⟨_, rfl⟩, q⟩
      | int i =>
        rw [brInt ba] at rx
        cases e1
        obtain ⟨tk, rfl⟩ := (show ∃ t, u = Value.int i t from rx)
        have e8 : i.natAbs.log2 < 1920 := of_decide_eq_true (by simpa [PyData.showable] using e4)
        exact PySem.P.repr_of_int e8 ⟨.str _, H, I.tok _, ⟨_, rfl⟩, q⟩
      | str z =>
        rw [brStr ba] at rx
        cases e1
        obtain ⟨tk, rfl⟩ := (show ∃ t, u = Value.str z t from rx)
        exact PySem.P.repr_of_str ⟨.str _, H, I.tok _, ⟨_, rfl⟩, q⟩ (by rw [sizeLine_eq]; exact e7)
      | tup l =>
        obtain ⟨r, vs, rfl, _⟩ := Br.tup ba
        exact gen r rx
      | lst l =>
        obtain ⟨r, vs, rfl, _⟩ := Br.lst ba
        exact gen r rx
      | frz l =>
        obtain ⟨r, vs, rfl, _⟩ := Br.frz ba
        exact gen r rx
      | _ => cases e1
    · cases e
  · cases e
theorem list_at (hk : Γ.K = X.K) {m : List Addr} {S : Sto} {H : Hp} {a : D} {v : V} {l : List D} (st : StOk Γ m S H) (h : Γ.br m H a v) (e1 : itemsL a S = some l) : ∃ p vs, v = .ref p ∧ SqL X.K H p vs ∧ Γ.brl m H l vs := by
  rw [← hk]
  cases a with
  | lst l' =>
    cases e1
    obtain ⟨p, vs, q1, q2, q3⟩ := Br.lst h
    exact ⟨p, vs, q1, .inl (.inl q2), q3⟩
  | frz l' =>
    cases e1
    obtain ⟨p, vs, q1, q2, q3⟩ := Br.frz h
    exact ⟨p, vs, q1, q2, q3⟩
  | ref n =>
    have h' : ∃ a, m[n]? = some a ∧ v = .ref a := by simpa [Cg.br, Br] using h
    obtain ⟨p, h1, h2⟩ := h'
    simp only [itemsL] at e1
    split at e1
    · rename_i l' q
      cases e1
      obtain ⟨vs, h3, h4⟩ := st.lst h1 q
      exact ⟨p, vs, h2, .inl (.inl h3), h4⟩
    · cases e1
  | _ => cases e1
theorem nums_at (hk : Γ.K = X.K) {m : List Addr} {S : Sto} {H : Hp} {a : D} {v : V} {ns : List Int} (st : StOk Γ m S H) (h : Γ.br m H a v) (e : numsL a S = some ns) : ∃ p, v = .ref p ∧ SqL X.K H p (ns.map V.int) := by
  unfold numsL at e
  obtain ⟨l, e1, e2⟩ := Option.bind_eq_some_iff.mp e
  obtain ⟨p, vs, q1, q2, q3⟩ := list_at hk st h e1
  have e4 := nums_of e2 q3
  subst e4
  exact ⟨p, q1, q2⟩
/-! ### sorting -/
theorem insertI_perm (x : Int) : ∀ l, (insertI x l).Perm (x :: l)
  | [] => List.Perm.refl _
  | y :: l => by
    unfold insertI
    split
    · exact List.Perm.refl _
    · exact ((insertI_perm x l).cons y).trans (List.Perm.swap x y l)
theorem sortI_perm : ∀ l, (sortI l).Perm l
  | [] => List.Perm.refl _
  | x :: l => (insertI_perm x _).trans ((sortI_perm l).cons x)
theorem insertI_srt (x : Int) : ∀ {l : List Int}, l.Pairwise (· ≤ ·) → (insertI x l).Pairwise (· ≤ ·)
  | [], _ => List.pairwise_singleton _ _
  | y :: l, h => by
    obtain ⟨h1, h2⟩ := List.pairwise_cons.mp h
    unfold insertI
    split
    · rename_i q
      exact List.pairwise_cons.mpr ⟨fun z hz => (List.mem_cons.mp hz).elim (fun e => by rw [e]; exact q) fun hz => Int.le_trans q (h1 z hz), h⟩
    · rename_i q
      refine List.pairwise_cons.mpr ⟨fun z hz => ?_, insertI_srt x h2⟩
      rcases List.mem_cons.mp ((insertI_perm x l).mem_iff.mp hz) with e | e
      · rw [e]; omega
      · exact h1 z e
theorem sortI_srt : ∀ l, (sortI l).Pairwise (· ≤ ·)
  | [] => List.Pairwise.nil
  | x :: l => insertI_srt x (sortI_srt l)
theorem insertT_perm (x : List Int) : ∀ l, (insertT x l).Perm (x :: l)
  | [] => List.Perm.refl _
  | y :: l => by
    unfold insertT
    split
    · exact ((insertT_perm x l).cons y).trans (List.Perm.swap x y l)
    · exact List.Perm.refl _
theorem sortT_perm : ∀ l, (sortT l).Perm l
  | [] => List.Perm.refl _
  | x :: l => (insertT_perm x _).trans ((sortT_perm l).cons x)
abbrev leT (x y : List Int) : Prop := lexI y x = false
theorem insertT_srt (x : List Int) : ∀ {l : List (List Int)}, l.Pairwise leT → (insertT x l).Pairwise leT
  | [], _ => List.pairwise_singleton _ _
  | y :: l, h => by
    obtain ⟨h1, h2⟩ := List.pairwise_cons.mp h
    unfold insertT
    split
    · rename_i q
      refine List.pairwise_cons.mpr ⟨fun z hz => ?_, insertT_srt x h2⟩
      rcases List.mem_cons.mp ((insertT_perm x l).mem_iff.mp hz) with e | e
      · rw [e]; exact lexI_asym _ _ q
      · exact h1 z e
    · rename_i q
      have q : lexI y x = false := by simpa using q
      exact List.pairwise_cons.mpr ⟨fun z hz => (List.mem_cons.mp hz).elim (fun e => by rw [e]; exact q) fun hz => lexI_tr x y z q (h1 z hz), h⟩
theorem sortT_srt : ∀ l, (sortT l).Pairwise leT
  | [] => List.Pairwise.nil
  | x :: l => insertT_srt x (sortT_srt l)
/-- there is one sorted list -/
theorem srt_uniq {α : Type} {le : α → α → Prop} (an : ∀ x y, le x y → le y x → x = y) : ∀ {l r : List α}, l.Pairwise le → r.Pairwise le → l.Perm r → l = r
  | [], r, _, _, p => (List.Perm.eq_nil p.symm).symm
  | x :: l, [], _, _, p => absurd p.length_eq (by simp)
  | x :: l, y :: r, h1, h2, p => by
    obtain ⟨a1, a2⟩ := List.pairwise_cons.mp h1
    obtain ⟨b1, b2⟩ := List.pairwise_cons.mp h2
    have e : x = y := by
      rcases List.mem_cons.mp (p.mem_iff.mp (List.mem_cons_self ..)) with q | q
      · exact q
      · rcases List.mem_cons.mp (p.mem_iff.mpr (List.mem_cons_self ..)) with q' | q'
        · exact q'.symm
        · exact an x y (a1 y q') (b1 x q)
    subst e
    rw [srt_uniq an a2 b2 ((List.perm_cons x).mp p)]
theorem brl_mem {m : List Addr} {H : Hp} : ∀ {l : List D} {vs : List V} {P : V → Prop}, Γ.brl m H l vs → (∀ d ∈ l, ∀ v, Γ.br m H d v → P v) → ∀ v ∈ vs, P v
  | [], vs, P, h, k => by
    have h' : vs = [] := by simpa [Cg.brl, BrL] using h
    subst h'
    intro v hv
    cases hv
  | d :: l, vs, P, h, k => by
    have h' : ∃ v r, vs = v :: r ∧ Γ.br m H d v ∧ Γ.brl m H l r := by simpa [Cg.brl, BrL] using h
    obtain ⟨v, r, rfl, h1, h2⟩ := h'
    intro u hu
    rcases List.mem_cons.mp hu with q | q
    · rw [q]; exact k d (List.mem_cons_self ..) v h1
    · exact brl_mem h2 (fun d' hd => k d' (List.mem_cons_of_mem _ hd)) u q
theorem brl_ints {m : List Addr} {H : Hp} : ∀ (ns : List Int), Γ.brl m H (ns.map D.int) (ns.map V.int)
  | [] => by simp [Cg.brl, BrL]
  | n :: ns => by
    have ih := brl_ints (m := m) (H := H) ns
    simp only [Cg.brl, List.map_cons, BrL, Br] at ih ⊢
    exact ⟨_, _, rfl, rfl, ih⟩
theorem numsOf_eq : ∀ {l : List D} {ns : List Int}, numsOf l = some ns → l = ns.map .int
  | [], ns, e => by cases e; rfl
  | .int i :: l, ns, e => by
    unfold numsOf at e
    obtain ⟨r, e1, e2⟩ := Option.map_eq_some_iff.mp e
    subst e2
    rw [numsOf_eq e1]
    rfl
  | .non :: _, _, e => by cases e
  | .bl _ :: _, _, e => by cases e
  | .tup _ :: _, _, e => by cases e
  | .str _ :: _, _, e => by cases e
  | .lst _ :: _, _, e => by cases e
  | .frz _ :: _, _, e => by cases e
  | .ref _ :: _, _, e => by cases e
  | .exc _ _ :: _, _, e => by cases e
  | .lam :: _, _, e => by cases e
theorem tupsOf_eq : ∀ {l : List D} {ts : List (List Int)}, tupsOf l = some ts → l = ts.map tupD
  | [], ns, e => by cases e; rfl
  | .tup d :: l, ns, e => by
    unfold tupsOf at e
    split at e
    · rename_i ns ts' e1 e2
      cases e
      rw [tupsOf_eq e2, numsOf_eq e1]
      rfl
    · cases e
  | .non :: _, _, e => by cases e
  | .bl _ :: _, _, e => by cases e
  | .int _ :: _, _, e => by cases e
  | .str _ :: _, _, e => by cases e
  | .lst _ :: _, _, e => by cases e
  | .frz _ :: _, _, e => by cases e
  | .ref _ :: _, _, e => by cases e
  | .exc _ _ :: _, _, e => by cases e
  | .lam :: _, _, e => by cases e
open Classical in
theorem tups_key {m : List Addr} {H : Hp} (un : ∀ v ns ms, Γ.br m H (tupD ns) v → Γ.br m H (tupD ms) v → ns = ms) : ∃ k : V → List Int, ∀ {ts : List (List Int)} {vs : List V}, Γ.brl m H (ts.map tupD) vs → (∀ v ∈ vs, Γ.br m H (tupD (k v)) v) ∧ vs.map k = ts := by
  refine ⟨fun v => if h : ∃ ns, Γ.br m H (tupD ns) v then choose h else [], fun {ts vs} => ?_⟩
  induction ts generalizing vs with
  | nil =>
    intro h
    have h' : vs = [] := by simpa [Cg.brl, BrL] using h
    subst h'
    exact ⟨fun v hv => (by cases hv), rfl⟩
  | cons ns ts ih =>
    intro h
    have h' : ∃ v r, vs = v :: r ∧ Γ.br m H (tupD ns) v ∧ Γ.brl m H (ts.map tupD) r := by simpa [Cg.brl, BrL] using h
    obtain ⟨v, r, rfl, h1, h2⟩ := h'
    obtain ⟨i1, i2⟩ := ih h2
    have hx : ∃ ns, Γ.br m H (tupD ns) v := ⟨ns, h1⟩
    have hc := choose_spec hx
    refine ⟨fun u hu => ?_, ?_⟩
    · rcases List.mem_cons.mp hu with q | q
      · rw [q]
        show Γ.br m H (tupD (if h : ∃ ns, Γ.br m H (tupD ns) v then choose h else [])) v
        rw [dif_pos hx]
        exact hc
      · exact i1 u q
    · rw [List.map_cons, i2]
      congr 1
      rw [dif_pos hx]
      exact un v _ _ hc h1
/-- a tuple's content is one -/
theorem tup_uniq (hk : Γ.K = X.K) {pins : List (Addr × Obj)} {σ : L2.St} {s : Shared} {m : List Addr} {H : Hp} (I : Inv X pins σ H s) {v : V} {ns ms : List Int} (h1 : Γ.br m H (tupD ns) v) (h2 : Γ.br m H (tupD ms) v) : ns = ms := by
  obtain ⟨a, vs, rfl, q1, b1⟩ := Br.tup h1
  obtain ⟨a', us, e, q2, b2⟩ := Br.tup h2
  cases e
  rw [hk] at q1 q2
  obtain ⟨i1, r1, ⟨o1, g1, _, n1, d1⟩, _⟩ := I.tuple q1
  obtain ⟨i2, r2, ⟨o2, g2, _, n2, d2⟩, _⟩ := I.tuple q2
  rw [g1] at g2
  cases g2
  rw [d1] at d2
  have e : i1 = i2 := by
    have := (Data.seq.inj d2).1
    simpa using congrArg Array.toList this
  subst e
  have ev := Vals.inj r1 r2
  subst ev
  have k1 := nums_of (ns := ns) (l := ns.map D.int) (by
    clear h1 h2 q1 q2 b1 b2 r1 r2
    induction ns with
    | nil => rfl
    | cons n ns ih => simp [numsOf, ih]) b1
  have k2 := nums_of (ns := ms) (l := ms.map D.int) (by
    clear h1 h2 q1 q2 b1 b2 r1 r2
    induction ms with
    | nil => rfl
    | cons n ns ih => simp [numsOf, ih]) b2
  rw [k1] at k2
  exact List.map_inj_right (fun x y h => by cases h; rfl) |>.mp k2
theorem brl_of {m : List Addr} {H : Hp} {k : V → List Int} : ∀ {zs : List V}, (∀ v ∈ zs, Γ.br m H (tupD (k v)) v) → Γ.brl m H ((zs.map k).map tupD) zs
  | [], _ => by simp [Cg.brl, BrL]
  | z :: zs, h => by
    have ih := brl_of (zs := zs) fun v hv => h v (List.mem_cons_of_mem _ hv)
    simp only [Cg.brl, List.map_cons, BrL] at ih ⊢
    exact ⟨_, _, rfl, h z (List.mem_cons_self ..), ih⟩
theorem numsOf_map : ∀ (ns : List Int), numsOf (ns.map D.int) = some ns
  | [] => rfl
  | n :: ns => by simp [numsOf, numsOf_map ns]
theorem callB_ok (hk : Γ.K = X.K) (hc : X.calm = true) (hg : X.A.guards = some []) (hu : X.A.units + 80 < cLine) (b : Bf) (hb : ∀ t, b ≠ .isI t) : CallR X (bfV b) (rF Γ b) := by
  intro pins s σ H xs us Q I r h
  obtain ⟨m, S, ds, d, S', st, bl, e, g⟩ := h
  unfold callB at e
  split at e
  · obtain ⟨v, rfl, hv⟩ := brl1 bl
    split at e
    · rename_i z hz
      cases e
      rw [brStr hv] at r
      exact call_len_str pins s σ H _ us Q I r ⟨_, rfl, by rw [sizeLine_eq]; exact hz, g.int st⟩
    · cases e
  · obtain ⟨v, rfl, hv⟩ := brl1 bl
    obtain ⟨e1, rfl⟩ := opt_ok e
    obtain ⟨l, e2, e3⟩ := Option.map_eq_some_iff.mp e1
    subst e3
    obtain ⟨a, vs, rfl, h1, h2⟩ := items_at st hv e2
    rw [hk] at h1
    have hl : (l.length : Int) = vs.length := by rw [h2.length]
    rw [hl] at g
    exact call_len_seq pins s σ H _ us Q I r ⟨a, vs, rfl, h1, g.int st⟩
  · obtain ⟨v, rfl, hv⟩ := brl1 bl
    cases e
    rw [brInt hv] at r
    exact call_int1 pins s σ H _ us Q I r (.inl ⟨_, rfl, g.int st⟩)
  · obtain ⟨v, rfl, hv⟩ := brl1 bl
    cases e
    rw [brBl hv] at r
    exact call_int1 pins s σ H _ us Q I r (.inr ⟨_, rfl, g.int st⟩)
  · obtain ⟨v, rfl, hv⟩ := brl1 bl
    split at e
    · rename_i hz
      cases e
      rw [brInt hv] at r
      exact call_str_int pins s σ H _ us Q I r ⟨_, rfl, hz, g.str st⟩
    · cases e
  · obtain ⟨v, rfl, hv⟩ := brl1 bl
    cases e
    rw [brStr hv] at r
    exact SkE.call_str_str pins s σ H _ us Q I r ⟨_, rfl, g.str st⟩
  · obtain ⟨v, rfl, hv⟩ := brl1 bl
    cases e
    rw [brInt hv] at r
    exact call_abs pins s σ H _ us Q I r ⟨_, rfl, g.int st⟩
  · obtain ⟨v, w, rfl, hv, hw⟩ := brl2 bl
    cases e
    rw [brInt hv, brInt hw] at r
    exact call_max2 hc pins s σ H _ us Q I r ⟨_, _, rfl, g.int st⟩
  · obtain ⟨v, w, rfl, hv, hw⟩ := brl2 bl
    cases e
    rw [brInt hv, brInt hw] at r
    exact call_min2 hc pins s σ H _ us Q I r ⟨_, _, rfl, g.int st⟩
  · obtain ⟨v, rfl, hv⟩ := brl1 bl
    obtain ⟨e1, rfl⟩ := opt_ok e
    obtain ⟨l, e2, e3⟩ := Option.map_eq_some_iff.mp e1
    subst e3
    rcases items_two st hv e2 with ⟨e4, h3⟩ | h3
    · subst e4
      obtain ⟨a, vs, rfl, h5, _⟩ := Br.tup hv
      rw [hk] at h5
      exact call_tuple_of pins s σ H _ us Q I r ⟨a, vs, rfl, .inr ⟨h5, g.val st hv⟩⟩
    · obtain ⟨a, vs, rfl, h5, h6⟩ := h3
      rw [hk] at h5
      exact call_tuple_of pins s σ H _ us Q I r ⟨a, vs, rfl, .inl ⟨h5, fun p hp => g.tup st h6 hp⟩⟩
  · obtain ⟨v, rfl, hv⟩ := brl1 bl
    obtain ⟨e1, rfl⟩ := opt_ok e
    obtain ⟨l, e2, e3⟩ := Option.map_eq_some_iff.mp e1
    subst e3
    obtain ⟨a, vs, rfl, h1, h2⟩ := items_at st hv e2
    rw [hk] at h1
    exact call_list_of pins s σ H _ us Q I r ⟨a, vs, rfl, h1, fun p hp => g.lst st h2 hp⟩
  · obtain ⟨v, rfl, hv⟩ := brl1 bl
    split at e
    · rename_i l e2
      cases e
      obtain ⟨a, vs, rfl, h1, h2⟩ := items_at st hv e2
      rw [hk] at h1
      exact call_list_of pins s σ H _ us Q I r ⟨a, vs, rfl, h1, fun p hp => g.cell st h2 hp⟩
    · cases e
  · obtain ⟨v, rfl, hv⟩ := brl1 bl
    obtain ⟨e1, rfl⟩ := opt_ok e
    obtain ⟨ns, e2, e3⟩ := Option.map_eq_some_iff.mp e1
    subst e3
    obtain ⟨a, rfl, h1⟩ := nums_at hk st hv e2
    exact cr_sum hc pins s σ H _ us Q I r ⟨a, ns, rfl, h1, g.int st⟩
  · obtain ⟨v, rfl, hv⟩ := brl1 bl
    split at e
    · rename_i i ns e2
      cases e
      obtain ⟨a, rfl, h1⟩ := nums_at hk st hv e2
      obtain ⟨k1, k2⟩ := maxI_ok (i :: ns) (by simp)
      refine cr_max hc pins s σ H _ us Q I r ⟨a, i :: ns, rfl, h1, by simp, fun x hx hy => ?_⟩
      have e5 : x = maxI (i :: ns) := Int.le_antisymm (k2 x hx) (hy _ k1)
      rw [e5]
      exact g.int st
    · cases e
  · obtain ⟨v, rfl, hv⟩ := brl1 bl
    split at e
    · rename_i i ns e2
      cases e
      obtain ⟨a, rfl, h1⟩ := nums_at hk st hv e2
      obtain ⟨k1, k2⟩ := minI_ok (i :: ns) (by simp)
      refine cr_min hc pins s σ H _ us Q I r ⟨a, i :: ns, rfl, h1, by simp, fun x hx hy => ?_⟩
      have e5 : x = minI (i :: ns) := Int.le_antisymm (hy _ k1) (k2 x hx)
      rw [e5]
      exact g.int st
    · cases e
  · obtain ⟨v, rfl, hv⟩ := brl1 bl
    obtain ⟨e1, rfl⟩ := opt_ok e
    obtain ⟨l', e2, e3⟩ := Option.map_eq_some_iff.mp e1
    subst e3
    obtain ⟨l, e4, e5⟩ := Option.bind_eq_some_iff.mp e2
    obtain ⟨a, vs, rfl, h1, h2⟩ := list_at hk st hv e4
    unfold sortedD at e5
    split at e5
    · rename_i ns q
      cases e5
      have e6 := nums_of q h2
      subst e6
      refine cr_sortedI pins s σ H _ us Q I r ⟨a, ns, rfl, h1, fun ns' p p1 p2 hp => ?_⟩
      have e7 : ns' = sortI ns := srt_uniq (fun x y h1 h2 => Int.le_antisymm h1 h2) p2 (sortI_srt ns) (p1.trans (sortI_perm ns).symm)
      subst e7
      exact g.lst st (brl_ints _) hp
    · split at e5
      · rename_i ts q
        split at e5
        · rename_i hc
          cases e5
          have e6 := tupsOf_eq q
          subst e6
          obtain ⟨k, hkey⟩ := tups_key (Γ := Γ) (m := m) (H := H) fun v ns ms => tup_uniq hk I
          obtain ⟨k1, k2⟩ := hkey h2
          refine cr_sortTI hu pins s σ H _ us Q I r ⟨a, vs, k, rfl, h1, fun y hy => ?_, fun hl y e => ?_, fun zs p p1 p2 hp => ?_⟩
          · obtain ⟨t, xs, rfl, w1, w2⟩ := Br.tup (k1 y hy)
            rw [hk] at w1
            refine ⟨t, rfl, ?_⟩
            rw [← nums_of (numsOf_map _) w2]
            exact w1
          · rw [← k2] at hc
            rcases hc with hc | hc
            · rw [List.length_map] at hc
              omega
            · rw [List.head?_map, e] at hc
              exact Option.some.inj hc
          · have e7 : zs.map k = sortT ts := srt_uniq (le := leT) (fun x y h1 h2 => lexI_anti x y h2 h1) (List.pairwise_map.mpr p2) (sortT_srt ts) (by
              rw [← k2]
              exact (p1.map k).trans (sortT_perm _).symm)
            rw [← e7] at g
            exact g.lst st (brl_of fun v hv => k1 v (p1.mem_iff.mp hv)) hp
        · cases e5
      · cases e5
  · obtain ⟨v, rfl, hv⟩ := brl1 bl
    split at e
    · rename_i l e0
      obtain ⟨e1, rfl⟩ := opt_ok e
      obtain ⟨ns, e2, e3⟩ := Option.map_eq_some_iff.mp e1
      subst e3
      obtain ⟨a, vs, rfl, h1, h2⟩ := items_at st hv e0
      rw [hk] at h1
      exact cr_anyS hc pins s σ H _ us Q I r ⟨a, vs, ns, rfl, h1, bools_of e2 h2, g.bl st⟩
    · cases e
  · obtain ⟨v, rfl, hv⟩ := brl1 bl
    split at e
    · rename_i l e0
      obtain ⟨e1, rfl⟩ := opt_ok e
      obtain ⟨ns, e2, e3⟩ := Option.map_eq_some_iff.mp e1
      subst e3
      obtain ⟨a, vs, rfl, h1, h2⟩ := items_at st hv e0
      rw [hk] at h1
      exact cr_allS hc pins s σ H _ us Q I r ⟨a, vs, ns, rfl, h1, bools_of e2 h2, g.bl st⟩
    · cases e
  · obtain ⟨v, rfl, hv⟩ := brl1 bl
    obtain ⟨e1, rfl⟩ := opt_ok e
    obtain ⟨t, e2, e3⟩ := Option.map_eq_some_iff.mp e1
    subst e3
    obtain ⟨u, rfl, r1⟩ := vals1 r
    exact reprs_ok hk hg hu I r1 hv e2 (g.str st)
  · obtain ⟨v, w, rfl, hv, hw⟩ := brl2 bl
    cases e
    rw [brInt hv, brInt hw] at r
    exact cr_gcd pins s σ H _ us Q I r ⟨_, _, rfl, by exact g.int st⟩
  · exact absurd rfl (hb _)
  · cases e
end
end Bh

set_option Elab.async false
set_option linter.all false
set_option maxRecDepth 10000
namespace Bh
open PySem PySem.Spec L2 PyProof.Rows
/-! ### an index, a cut -/
section
variable {Γ : Cg} {X : Cx} {m : List Addr} {S : Sto} {H : Hp}
theorem BrL.atI {l : List D} {vs : List V} {i : Int} {d : D} (h : Γ.brl m H l vs) (e : atI l i = some d) : ∃ v, atI vs i = some v ∧ Γ.br m H d v := by
  unfold L2.atI at e ⊢
  obtain ⟨j, e1, e2⟩ := Option.bind_eq_some_iff.mp e
  obtain ⟨v, e3, e4⟩ := BrL.get h e2
  refine ⟨v, ?_, e4⟩
  rw [← BrL.length h, e1]
  exact e3
theorem BrL.cut {l : List D} {vs : List V} (h : Γ.brl m H l vs) (lo hi : Option Int) : Γ.brl m H (cut l lo hi) (cutV vs lo hi) := by
  unfold Bh.cut L2.cutV
  rw [← BrL.length h]
  exact BrL.take _ (BrL.drop _ h)
def rI (Γ : Cg) : R2 := fun x y H Q => ∃ m S a i d, StOk Γ m S H ∧ Γ.br m H a x ∧ Γ.br m H i y ∧ index a i S = some d ∧ Gives Γ m S H d Q
theorem ix_ok (hk : Γ.K = X.K) : IxR X (rI Γ) := by
  intro value slice pins s σ H x y v u Q I rx ry h hs
  obtain ⟨m, S, a, i, d, st, ba, bi, e, g⟩ := h
  unfold index at e
  split at e
  · rename_i l j e1
    obtain ⟨p, vs, rfl, h1, h2⟩ := items_at st ba e1
    obtain ⟨w, e2, e3⟩ := BrL.atI h2 e
    have ey := brInt bi
    rw [hk] at h1
    rcases h1 with h1 | h1
    · exact ix_list value slice pins s σ H _ y v u Q I rx ry ⟨p, vs, j, w, rfl, ey, h1, e2, g.val st e3⟩ hs
    · exact ix_tup value slice pins s σ H _ y v u Q I rx ry ⟨p, vs, j, w, rfl, ey, h1, e2, g.val st e3⟩ hs
  · cases e
def rS (Γ : Cg) : V → Option Int → Option Int → Hp → VK → Prop := fun x lo hi H Q => ∃ m S a d, StOk Γ m S H ∧ Γ.br m H a x ∧ slice a lo hi S = some d ∧ Gives Γ m S H d Q
theorem sl_ok (hk : Γ.K = X.K) : SlR X (rS Γ) := by
  intro pins s σ H x v vl vu lo hi sl Q I rx hs pl pu h
  obtain ⟨m, S, a, d, st, ba, e, g⟩ := h
  have lst : ∀ {p : Addr} {l : List D} {vs : List V}, x = .ref p → SqL Γ.K H p vs → Γ.brl m H l vs → d = .lst (cut l lo hi) → ∃ T id, typeLookup (.type T) "__getitem__" = pure (some (.builtin id)) ∧ s.TypeIs v T ∧ wpAny (model X.prog X.w) X.A (getItem v (.ref sl)) (EP X pins σ Q) X.xe s := by
    intro p l vs ex h1 h2 ed
    subst ed
    rw [hk] at h1
    exact sl_list pins s σ H x v vl vu lo hi sl Q I rx hs pl pu ⟨p, vs, ex, h1, fun q hq => g.lst st (BrL.cut h2 lo hi) hq⟩
  cases a with
  | tup l =>
    cases e
    obtain ⟨p, vs, rfl, h1, h2⟩ := Br.tup ba
    have h1' := h1
    rw [hk] at h1'
    refine sl_tupA pins s σ H _ v vl vu lo hi sl Q I rx hs pl pu ⟨p, vs, rfl, h1', fun z => ?_, fun z q hq => g.tup st (BrL.cut h2 lo hi) hq⟩
    have ec : cut l lo hi = l := by
      unfold Bh.cut
      rw [BrL.length h2, z.1, z.2]
      simp [← BrL.length h2]
    rw [ec] at g
    exact g.val st ba
  | lst l =>
    cases e
    obtain ⟨p, vs, ex, h1, h2⟩ := Br.lst ba
    exact lst ex (.inl (.inl h1)) h2 rfl
  | frz l =>
    cases e
    obtain ⟨p, vs, ex, h1, h2⟩ := Br.frz ba
    exact lst ex h1 h2 rfl
  | ref n =>
    have h' : ∃ a, m[n]? = some a ∧ x = .ref a := by simpa [Cg.br, Br] using ba
    obtain ⟨p, h1, h2⟩ := h'
    simp only [slice] at e
    split at e
    · rename_i l' q
      cases e
      obtain ⟨vs, h3, h4⟩ := st.lst h1 q
      exact lst h2 (.inl (.inl h3)) h4 rfl
    · cases e
  | _ => cases e
end
/-! ### what an answer wants of the rest -/
/-- from m, H on: of an answer a what P says, of an exception what W says -/
def Sat {α : Type} (Γ : Cg) (W : XK) (m : List Addr) (H : Hp) (r : R α) (P : α → List Addr → Sto → Hp → Prop) : Prop := match r with
  | .ok a S' => ∀ m' H', Grow m H m' H' → StOk Γ m' S' H' → P a m' S' H'
  | .exn c w S' => ∀ m' H' dx v, Grow m H m' H' → StOk Γ m' S' H' → Xd H' dx v → dx ∉ m' → dx ∉ Γ.hid → Γ.br m' H' w v → W (.ref (Γ.cls c)) (some dx) H'
  | .bad => False
section
variable {Γ : Cg} {W : XK} {m m1 : List Addr} {H H1 : Hp} {α β : Type}
theorem Sat.from {r : R α} {P : α → List Addr → Sto → Hp → Prop} (g : Grow m H m1 H1) (h : Sat Γ W m H r P) : Sat Γ W m1 H1 r P := by
  cases r with
  | ok a S => exact fun m' H' g' st => h m' H' (g.trans g') st
  | exn c w S => exact fun m' H' dx v g' => h m' H' dx v (g.trans g')
  | bad => exact h
theorem Sat.imp {r : R α} {P P' : α → List Addr → Sto → Hp → Prop} (h : Sat Γ W m H r P) (k : ∀ a m' S' H', Grow m H m' H' → StOk Γ m' S' H' → P a m' S' H' → P' a m' S' H') : Sat Γ W m H r P' := by
  cases r with
  | ok a S => exact fun m' H' g st => k _ _ _ _ g st (h m' H' g st)
  | exn c w S => exact h
  | bad => exact h
theorem Sat.bind {r : R α} {f : α → Sto → R β} {P : β → List Addr → Sto → Hp → Prop} (h : Sat Γ W m H (r.bind f) P) : Sat Γ W m H r fun a m1 S1 H1 => Sat Γ W m1 H1 (f a S1) P := by
  cases r with
  | ok a S => exact fun m' H' g st => Sat.from g h
  | exn c w S => exact h
  | bad => exact h
theorem Sat.ok {a : α} {S : Sto} {P : α → List Addr → Sto → Hp → Prop} (h : Sat Γ W m H (.ok a S) P) (st : StOk Γ m S H) : P a m S H := h m H .refl st
/-- an answer that is told or none -/
theorem Sat.opt {o : Option α} {S : Sto} {P : α → List Addr → Sto → Hp → Prop} (h : Sat Γ W m H (opt o S) P) : ∃ a, o = some a ∧ Sat Γ W m H (.ok a S) P := by
  cases o with
  | none => exact (show False from h).elim
  | some a => exact ⟨a, rfl, h⟩
end
/-! ### the judgements -/
/-- the answers of a datum -/
abbrev PV (Γ : Cg) (Q : VK) : D → List Addr → Sto → Hp → Prop := fun d m' _ H' => ∀ v, Γ.br m' H' d v → Q v H'
/-- the reading of what f tells -/
def rE (Γ : Cg) (W : WX) (f : Env → Sto → R D) : TE := fun σ H Q => ∃ m S ρ, StOk Γ m S H ∧ EnvOk Γ m H ρ σ ∧ Sat Γ (fun c d H' => W c d σ H') m H (f ρ S) (PV Γ Q)
def rT (Γ : Cg) (W : WX) (f : Env → Sto → R D) : TT := fun σ H Q => ∃ m S ρ, StOk Γ m S H ∧ EnvOk Γ m H ρ σ ∧ Sat Γ (fun c d H' => W c d σ H') m H ((f ρ S).bind fun x S1 => opt (truthy x S1) S1) (fun b _ _ H' => Q b H')
def rA (Γ : Cg) (W : WX) (f : Env → Sto → R (List D)) : TA := fun σ H Q => ∃ m S ρ, StOk Γ m S H ∧ EnvOk Γ m H ρ σ ∧ Sat Γ (fun c d H' => W c d σ H') m H (f ρ S) (fun l m' _ H' => ∀ vs, Γ.brl m' H' l vs → Q vs H')
theorem PE.imp {X : Cx} {e : Expr} {t t' : TE} (h : PE X e t) (k : ∀ σ H Q, t' σ H Q → t σ H Q) : PE X e t' := ⟨fun pins s σ H Q I q => h.run pins s σ H Q I (k σ H Q q)⟩
theorem PT.imp {X : Cx} {e : Expr} {t t' : TT} (h : PT X e t) (k : ∀ σ H Q, t' σ H Q → t σ H Q) : PT X e t' := ⟨fun pins s σ H Q I q => h.run pins s σ H Q I (k σ H Q q)⟩
theorem PA.imp {X : Cx} {e : List Expr} {t t' : TA} (h : PA X e t) (k : ∀ σ H Q, t' σ H Q → t σ H Q) : PA X e t' := ⟨fun pos pins s σ H Q I q => h.run pos pins s σ H Q I (k σ H Q q)⟩
section
variable {Γ : Cg} {X : Cx} {W : WX} {a b c : Expr} {fa fb fc : Env → Sto → R D} {pos : Pos}
/-- one after another -/
theorem rE_two {fa : Env → Sto → R D} {k : D → Env → Sto → R D} {σ : L2.St} {H : Hp} {Q : VK} {t : V → Hp → Prop} (h : rE Γ W (fun ρ S => (fa ρ S).bind fun x S1 => k x ρ S1) σ H Q)
    (q : ∀ x v m1 S1 ρ H1, StOk Γ m1 S1 H1 → EnvOk Γ m1 H1 ρ σ → Γ.br m1 H1 x v → Sat Γ (fun c d H' => W c d σ H') m1 H1 (k x ρ S1) (PV Γ Q) → t v H1) : rE Γ W fa σ H t := by
  obtain ⟨m, S, ρ, st, en, h⟩ := h
  refine ⟨m, S, ρ, st, en, h.bind.imp fun x m1 S1 H1 g st1 h1 v hv => ?_⟩
  exact q x v m1 S1 ρ H1 st1 (en.grow g) hv h1
theorem pe_bin (hk : Γ.K = X.K) (op : BOp) (ha : PE X a (rE Γ W fa)) (hb : PE X b (rE Γ W fb)) : PE X (.BinOp a (bop op) b pos) (rE Γ W fun ρ S => (fa ρ S).bind fun x S1 => (fb ρ S1).bind fun y S2 => opt (binop op x y) S2) := by
  refine PE.imp (pe_op (opB_ok hk op) ha hb) fun σ H Q h => ?_
  refine rE_two h fun x v m1 S1 ρ H1 st en hv h1 => ?_
  refine ⟨m1, S1, ρ, st, en, h1.bind.imp fun y m2 S2 H2 g st2 h2 u hu => ?_⟩
  obtain ⟨d, e, h3⟩ := h2.opt
  exact ⟨m2, S2, x, y, d, st2, Br.grow g _ _ hv, hu, e, fun m' H' w g' st' hw => h3 m' H' g' st' w hw⟩
theorem pe_ngt (ha : PE X a (rE Γ W fa)) : PE X (.UnaryOp .USub a pos) (rE Γ W fun ρ S => (fa ρ S).bind fun x S1 => match x with
    | .int i => .ok (.int (-i)) S1
    | _ => .bad) := by
  refine PE.imp (pe_un un_neg ha) fun σ H Q h => ?_
  refine rE_two h fun x v m1 S1 ρ H1 st en hv h1 => ?_
  cases x with
  | int i => exact ⟨i, brInt hv, h1.ok st _ (by simp [Cg.br, Br])⟩
  | _ => exact (show False from h1).elim
theorem pe_cmpp (hk : Γ.K = X.K) (hu : X.A.units + 64 < cLine) (op : COp) (hm : behindInMarks (cop op) b = false) (ha : PE X a (rE Γ W fa)) (hb : PE X b (rE Γ W fb)) :
    PE X (.Compare a [cop op] [b] pos) (rE Γ W fun ρ S => (fa ρ S).bind fun x S1 => (fb ρ S1).bind fun y S2 => opt ((cmpop op x y S2).map .bl) S2) := by
  refine PE.imp (pe_cmpR (opC_ok hk hu op) ha hb hm) fun σ H Q h => ?_
  refine rE_two h fun x v m1 S1 ρ H1 st en hv h1 => ?_
  refine ⟨m1, S1, ρ, st, en, h1.bind.imp fun y m2 S2 H2 g st2 h2 u hu => ?_⟩
  obtain ⟨d, e, h3⟩ := h2.opt
  obtain ⟨k, e1, e2⟩ := Option.map_eq_some_iff.mp e
  subst e2
  exact ⟨m2, S2, x, y, k, st2, Br.grow g _ _ hv, hu, e1, h3.ok st2 _ (by simp [Cg.br, Br])⟩
theorem pe_chainn (hk : Γ.K = X.K) (hu : X.A.units + 64 < cLine) (o1 o2 : COp) (hm : lastMarks [cop o1, cop o2] [b, c] = false) (ha : PE X a (rE Γ W fa)) (hb : PE X b (rE Γ W fb)) (hc : PE X c (rE Γ W fc)) :
    PE X (.Compare a [cop o1, cop o2] [b, c] pos) (rE Γ W fun ρ S => (fa ρ S).bind fun x S1 => (fb ρ S1).bind fun y S2 => match cmpop o1 x y S2 with
    | some true => (fc ρ S2).bind fun z S3 => opt ((cmpop o2 y z S3).map .bl) S3
    | some false => .ok (.bl false) S2
    | none => .bad) := by
  refine PE.imp (pe_chain (opC_ok hk hu o1) (opC_ok hk hu o2) ha hb hc hm) fun σ H Q h => ?_
  refine rE_two h fun x v m1 S1 ρ H1 st en hv h1 => ?_
  refine ⟨m1, S1, ρ, st, en, h1.bind.imp fun y m2 S2 H2 g st2 h2 u hu => ?_⟩
  cases e : cmpop o1 x y S2 with
  | none =>
    rw [e] at h2
    exact (show False from h2).elim
  | some k =>
    rw [e] at h2
    refine ⟨m2, S2, x, y, k, st2, Br.grow g _ _ hv, hu, e, k, rfl, ?_⟩
    cases k with
    | false => exact iteF (h2.ok st2 _ (by simp [Cg.br, Br]))
    | true =>
      refine iteT ?_
      refine ⟨m2, S2, ρ, st2, en.grow g, Sat.imp (Sat.bind h2) fun z m3 S3 H3 g3 st3 h3 w hw => ?_⟩
      obtain ⟨d, e3, h4⟩ := h3.opt
      obtain ⟨k, e1, e2⟩ := Option.map_eq_some_iff.mp e3
      subst e2
      exact ⟨m3, S3, y, z, k, st3, Br.grow g3 _ _ hu, hw, e1, h4.ok st3 _ (by simp [Cg.br, Br])⟩
end
theorem Sat.test {Γ : Cg} {W : XK} {m : List Addr} {H : Hp} {β : Type} {r : R D} {k : Bool → Sto → R β} {P : β → List Addr → Sto → Hp → Prop} (h : Sat Γ W m H (r.bind fun x S1 => match truthy x S1 with
    | some true => k true S1
    | some false => k false S1
    | none => .bad) P) : Sat Γ W m H (r.bind fun x S1 => Bh.opt (truthy x S1) S1) fun b m1 S1 H1 => Sat Γ W m1 H1 (k b S1) P := by
  cases r with
  | ok x S1 =>
    simp only [R.bind_ok] at h ⊢
    cases e : truthy x S1 with
    | none =>
      rw [e] at h
      exact (show False from h).elim
    | some b =>
      rw [e] at h
      intro m1 H1 g st
      cases b <;> exact Sat.from g h
  | exn c w S1 => exact h
  | bad => exact h
section
variable {Γ : Cg} {X : Cx} {W : WX} {a b c : Expr} {fa fb fc : Env → Sto → R D} {pos : Pos} {es : List Expr} {fs : Env → Sto → R (List D)}
theorem pe_iff {tc : Env → Sto → R D} (hc : PT X c (rT Γ W tc)) (ha : PE X a (rE Γ W fa)) (hb : PE X b (rE Γ W fb)) : PE X (.IfExp c a b pos) (rE Γ W fun ρ S => (tc ρ S).bind fun x S1 => match truthy x S1 with
    | some true => fa ρ S1
    | some false => fb ρ S1
    | none => .bad) := by
  refine PE.imp (pe_ifExp hc ha hb) fun σ H Q h => ?_
  obtain ⟨m, S, ρ, st, en, h⟩ := h
  refine ⟨m, S, ρ, st, en, (Sat.test (k := fun b S1 => if b = true then fa ρ S1 else fb ρ S1) (by exact h)).imp fun k m1 S1 H1 g st1 h1 => ?_⟩
  cases k with
  | true => exact iteT ⟨m1, S1, ρ, st1, en.grow g, h1⟩
  | false => exact iteF ⟨m1, S1, ρ, st1, en.grow g, h1⟩
/-- a value's truth as a test -/
theorem pt_val' (hk : Γ.K = X.K) (ha : PE X a (rE Γ W fa)) (he : ∀ whole, isTrue a X.env whole = (do let v ← whole; standAt a.pos; holding [v] (PySem.truthy v))) : PT X a (rT Γ W fa) := by
  refine PT.imp (pt_truth ha he) fun σ H Q h => ?_
  obtain ⟨m, S, ρ, st, en, h⟩ := h
  refine ⟨m, S, ρ, st, en, h.bind.imp fun x m1 S1 H1 g st1 h1 v hv => ?_⟩
  obtain ⟨k, e, h2⟩ := h1.opt
  have := truV_of st1 hv e
  rw [hk] at this
  exact ⟨k, this, h2.ok st1⟩
theorem pt_nott (ha : PT X a (rT Γ W fa)) : PT X (.UnaryOp .Not a pos) (rT Γ W fun ρ S => (fa ρ S).bind fun x S1 => opt ((truthy x S1).map fun b => .bl (!b)) S1) := by
  refine PT.imp (pt_not ha) fun σ H Q h => ?_
  obtain ⟨m, S, ρ, st, en, h⟩ := h
  refine ⟨m, S, ρ, st, en, ?_⟩
  cases e : fa ρ S with
  | ok x S1 =>
    simp only [e, R.bind_ok] at h ⊢
    cases e1 : truthy x S1 with
    | none =>
      rw [e1] at h
      exact (show False from h).elim
    | some b =>
      rw [e1] at h
      exact fun m1 H1 g st1 => h m1 H1 g st1
  | exn k w S1 => simp only [e, R.bind_exn] at h ⊢; exact h
  | bad => simp only [e, R.bind_bad] at h; exact h.elim
theorem pe_nott (hk : Γ.K = X.K) (ha : PE X a (rE Γ W fa)) : PE X (.UnaryOp .Not a pos) (rE Γ W fun ρ S => (fa ρ S).bind fun x S1 => opt ((truthy x S1).map fun b => .bl (!b)) S1) := by
  refine PE.imp (pe_notT ha) fun σ H Q h => ?_
  refine rE_two h fun x v m1 S1 ρ H1 st en hv h1 => ?_
  obtain ⟨d, e, h3⟩ := h1.opt
  obtain ⟨k, e1, e2⟩ := Option.map_eq_some_iff.mp e
  subst e2
  have := truV_of st hv e1
  rw [hk] at this
  exact ⟨k, this, h3.ok st _ (by simp [Cg.br, Br])⟩
theorem pt_cmpp (hk : Γ.K = X.K) (hu : X.A.units + 64 < cLine) (op : COp) (hm : behindInMarks (cop op) b = false) (ha : PE X a (rE Γ W fa)) (hb : PE X b (rE Γ W fb)) :
    PT X (.Compare a [cop op] [b] pos) (rT Γ W fun ρ S => (fa ρ S).bind fun x S1 => (fb ρ S1).bind fun y S2 => opt ((cmpop op x y S2).map .bl) S2) := by
  refine PT.imp (pt_cmpR (opC_ok hk hu op) ha hb hm) fun σ H Q h => ?_
  obtain ⟨m, S, ρ, st, en, h⟩ := h
  have h0 : Sat Γ (fun c d H' => W c d σ H') m H ((fa ρ S).bind fun x S1 => (fb ρ S1).bind fun y S2 => opt (cmpop op x y S2) S2) (fun b _ _ H' => Q b H') := by
    cases e : fa ρ S with
    | ok x S1 =>
      simp only [e, R.bind_ok] at h ⊢
      cases e1 : fb ρ S1 with
      | ok y S2 =>
        simp only [e1, R.bind_ok] at h ⊢
        cases e2 : cmpop op x y S2 with
        | none =>
          rw [e2] at h
          exact (show False from h).elim
        | some k =>
          rw [e2] at h
          exact h
      | exn k w S2 => simp only [e1, R.bind_exn] at h ⊢; exact h
      | bad => simp only [e1, R.bind_bad] at h; exact h.elim
    | exn k w S1 => simp only [e, R.bind_exn] at h ⊢; exact h
    | bad => simp only [e, R.bind_bad] at h; exact h.elim
  refine ⟨m, S, ρ, st, en, h0.bind.imp fun x m1 S1 H1 g1 st1 h1 v hv => ?_⟩
  refine ⟨m1, S1, ρ, st1, en.grow g1, h1.bind.imp fun y m2 S2 H2 g st2 h2 u hu => ?_⟩
  obtain ⟨d, e, h3⟩ := h2.opt
  exact ⟨m2, S2, x, y, d, st2, Br.grow g _ _ hv, hu, e, d, rfl, h3.ok st2⟩
theorem pt_chainn (hk : Γ.K = X.K) (hu : X.A.units + 64 < cLine) (o1 o2 : COp) (hm : lastMarks [cop o1, cop o2] [b, c] = false) (ha : PE X a (rE Γ W fa)) (hb : PE X b (rE Γ W fb)) (hc : PE X c (rE Γ W fc)) :
    PT X (.Compare a [cop o1, cop o2] [b, c] pos) (rT Γ W fun ρ S => (fa ρ S).bind fun x S1 => (fb ρ S1).bind fun y S2 => match cmpop o1 x y S2 with
    | some true => (fc ρ S2).bind fun z S3 => opt ((cmpop o2 y z S3).map .bl) S3
    | some false => .ok (.bl false) S2
    | none => .bad) := by
  refine PT.imp (pt_chain (opC_ok hk hu o1) (opC_ok hk hu o2) ha hb hc hm) fun σ H Q h => ?_
  obtain ⟨m, S, ρ, st, en, h⟩ := h
  have h0 : Sat Γ (fun c d H' => W c d σ H') m H ((fa ρ S).bind fun x S1 => (fb ρ S1).bind fun y S2 => match cmpop o1 x y S2 with
    | some true => (fc ρ S2).bind fun z S3 => opt (cmpop o2 y z S3) S3
    | some false => .ok false S2
    | none => .bad) (fun b _ _ H' => Q b H') := by
    cases e : fa ρ S with
    | ok x S1 =>
      simp only [e, R.bind_ok] at h ⊢
      cases e1 : fb ρ S1 with
      | ok y S2 =>
        simp only [e1, R.bind_ok] at h ⊢
        cases e2 : cmpop o1 x y S2 with
        | none =>
          rw [e2] at h
          exact (show False from h).elim
        | some k =>
          rw [e2] at h
          cases k with
          | false => exact h
          | true =>
            simp only at h ⊢
            cases e3 : fc ρ S2 with
            | ok z S3 =>
              simp only [e3, R.bind_ok] at h ⊢
              cases e4 : cmpop o2 y z S3 with
              | none =>
                rw [e4] at h
                exact (show False from h).elim
              | some k =>
                rw [e4] at h
                exact h
            | exn k w S2 => simp only [e3, R.bind_exn] at h ⊢; exact h
            | bad => simp only [e3, R.bind_bad] at h; exact h.elim
      | exn k w S2 => simp only [e1, R.bind_exn] at h ⊢; exact h
      | bad => simp only [e1, R.bind_bad] at h; exact h.elim
    | exn k w S1 => simp only [e, R.bind_exn] at h ⊢; exact h
    | bad => simp only [e, R.bind_bad] at h; exact h.elim
  refine ⟨m, S, ρ, st, en, h0.bind.imp fun x m1 S1 H1 g1 st1 h1 v hv => ?_⟩
  refine ⟨m1, S1, ρ, st1, en.grow g1, h1.bind.imp fun y m2 S2 H2 g st2 h2 u hu => ?_⟩
  cases e : cmpop o1 x y S2 with
  | none =>
    rw [e] at h2
    exact (show False from h2).elim
  | some k =>
    rw [e] at h2
    refine ⟨m2, S2, x, y, k, st2, Br.grow g _ _ hv, hu, e, k, rfl, ?_⟩
    cases k with
    | false => exact iteF ⟨false, rfl, h2.ok st2⟩
    | true =>
      refine iteT ?_
      refine ⟨m2, S2, ρ, st2, (en.grow g1).grow g, Sat.imp (Sat.bind h2) fun z m3 S3 H3 g3 st3 h3 w hw => ?_⟩
      obtain ⟨d, e3, h4⟩ := h3.opt
      exact ⟨m3, S3, y, z, d, st3, Br.grow g3 _ _ hu, hw, e3, d, rfl, h4.ok st3⟩
/-! ### and, or -/
theorem pe_andd {l : List Expr} (hk : Γ.K = X.K) (ha : PE X a (rE Γ W fa)) (hb : PE X (.BoolOp .And (b :: l) pos) (rE Γ W fb)) : PE X (.BoolOp .And (a :: b :: l) pos) (rE Γ W fun ρ S => (fa ρ S).bind fun x S1 => match truthy x S1 with
    | some true => fb ρ S1
    | some false => .ok x S1
    | none => .bad) := by
  refine PE.imp (pe_andT ha hb) fun σ H Q h => ?_
  refine rE_two h fun x v m1 S1 ρ H1 st en hv h1 => ?_
  cases e : truthy x S1 with
  | none =>
    rw [e] at h1
    exact (show False from h1).elim
  | some k =>
    rw [e] at h1
    have := truV_of st hv e
    rw [hk] at this
    refine ⟨k, this, ?_⟩
    cases k with
    | true => exact iteT ⟨m1, S1, ρ, st, en, h1⟩
    | false => exact iteF (h1.ok st v hv)
theorem pe_orr {l : List Expr} (hk : Γ.K = X.K) (ha : PE X a (rE Γ W fa)) (hb : PE X (.BoolOp .Or (b :: l) pos) (rE Γ W fb)) : PE X (.BoolOp .Or (a :: b :: l) pos) (rE Γ W fun ρ S => (fa ρ S).bind fun x S1 => match truthy x S1 with
    | some false => fb ρ S1
    | some true => .ok x S1
    | none => .bad) := by
  refine PE.imp (pe_orT ha hb) fun σ H Q h => ?_
  refine rE_two h fun x v m1 S1 ρ H1 st en hv h1 => ?_
  cases e : truthy x S1 with
  | none =>
    rw [e] at h1
    exact (show False from h1).elim
  | some k =>
    rw [e] at h1
    have := truV_of st hv e
    rw [hk] at this
    refine ⟨k, this, ?_⟩
    cases k with
    | false => exact iteF ⟨m1, S1, ρ, st, en, h1⟩
    | true => exact iteT (h1.ok st v hv)
theorem and_test {σ : L2.St} {H : Hp} {m : List Addr} {S : Sto} {ρ : Env} {Q : Bool → Hp → Prop} (h : Sat Γ (fun c d H' => W c d σ H') m H (((fa ρ S).bind fun x S1 => match truthy x S1 with
    | some true => fb ρ S1
    | some false => .ok x S1
    | none => .bad).bind fun x S1 => opt (truthy x S1) S1) (fun b _ _ H' => Q b H')) :
    Sat Γ (fun c d H' => W c d σ H') m H ((fa ρ S).bind fun x S1 => opt (truthy x S1) S1) fun b m1 S1 H1 => if b = true then Sat Γ (fun c d H' => W c d σ H') m1 H1 ((fb ρ S1).bind fun x S1 => opt (truthy x S1) S1) (fun b _ _ H' => Q b H') else Q false H1 := by
  cases e : fa ρ S with
  | ok x S1 =>
    simp only [e, R.bind_ok] at h ⊢
    cases e1 : truthy x S1 with
    | none =>
      rw [e1] at h
      exact (show False from h).elim
    | some b =>
      rw [e1] at h
      cases b with
      | true => exact fun m1 H1 g st1 => iteT (Sat.from g h)
      | false =>
        simp only [R.bind_ok, e1] at h
        exact fun m1 H1 g st1 => iteF (h m1 H1 g st1)
  | exn k w S1 => simp only [e, R.bind_exn] at h ⊢; exact h
  | bad => simp only [e, R.bind_bad] at h; exact h.elim
theorem or_test {σ : L2.St} {H : Hp} {m : List Addr} {S : Sto} {ρ : Env} {Q : Bool → Hp → Prop} (h : Sat Γ (fun c d H' => W c d σ H') m H (((fa ρ S).bind fun x S1 => match truthy x S1 with
    | some false => fb ρ S1
    | some true => .ok x S1
    | none => .bad).bind fun x S1 => opt (truthy x S1) S1) (fun b _ _ H' => Q b H')) :
    Sat Γ (fun c d H' => W c d σ H') m H ((fa ρ S).bind fun x S1 => opt (truthy x S1) S1) fun b m1 S1 H1 => if b = true then Q true H1 else Sat Γ (fun c d H' => W c d σ H') m1 H1 ((fb ρ S1).bind fun x S1 => opt (truthy x S1) S1) (fun b _ _ H' => Q b H') := by
  cases e : fa ρ S with
  | ok x S1 =>
    simp only [e, R.bind_ok] at h ⊢
    cases e1 : truthy x S1 with
    | none =>
      rw [e1] at h
      exact (show False from h).elim
    | some b =>
      rw [e1] at h
      cases b with
      | false => exact fun m1 H1 g st1 => iteF (Sat.from g h)
      | true =>
        simp only [R.bind_ok, e1] at h
        exact fun m1 H1 g st1 => iteT (h m1 H1 g st1)
  | exn k w S1 => simp only [e, R.bind_exn] at h ⊢; exact h
  | bad => simp only [e, R.bind_bad] at h; exact h.elim
theorem PW.imp {X : Cx} {e : Expr} {t t' : TT} (h : PW X e t) (k : ∀ σ H Q, t' σ H Q → t σ H Q) : PW X e t' := ⟨fun wh pins s σ H Q I q => h.run wh pins s σ H Q I (k σ H Q q)⟩
theorem pw_andd {l : List Expr} (ha : PT X a (rT Γ W fa)) (hb : PW X (.BoolOp .And (b :: l) pos) (rT Γ W fb)) : PW X (.BoolOp .And (a :: b :: l) pos) (rT Γ W fun ρ S => (fa ρ S).bind fun x S1 => match truthy x S1 with
    | some true => fb ρ S1
    | some false => .ok x S1
    | none => .bad) := by
  refine PW.imp (pw_and ha hb) fun σ H Q h => ?_
  obtain ⟨m, S, ρ, st, en, h⟩ := h
  refine ⟨m, S, ρ, st, en, (and_test h).imp fun k m1 S1 H1 g st1 h1 => ?_⟩
  cases k with
  | true => exact iteT ⟨m1, S1, ρ, st1, en.grow g, by simpa using h1⟩
  | false => exact iteF (by simpa using h1)
theorem pw_orr {l : List Expr} (ha : PT X a (rT Γ W fa)) (hb : PW X (.BoolOp .Or (b :: l) pos) (rT Γ W fb)) : PW X (.BoolOp .Or (a :: b :: l) pos) (rT Γ W fun ρ S => (fa ρ S).bind fun x S1 => match truthy x S1 with
    | some false => fb ρ S1
    | some true => .ok x S1
    | none => .bad) := by
  refine PW.imp (pw_or ha hb) fun σ H Q h => ?_
  obtain ⟨m, S, ρ, st, en, h⟩ := h
  refine ⟨m, S, ρ, st, en, (or_test h).imp fun k m1 S1 H1 g st1 h1 => ?_⟩
  cases k with
  | true => exact iteT (by simpa using h1)
  | false => exact iteF ⟨m1, S1, ρ, st1, en.grow g, by simpa using h1⟩
/-! ### arguments, displays -/
theorem pa_none : PA X [] (rA Γ W fun _ S => .ok [] S) := by
  refine PA.imp pa_nil fun σ H Q h => ?_
  obtain ⟨m, S, ρ, st, en, h⟩ := h
  exact h.ok st [] (by simp [Cg.brl, BrL])
theorem pa_more (ha : PE X a (rE Γ W fa)) (hr : PA X es (rA Γ W fs)) (hs : starEach (a :: es) X.env = (false, eval a X.env) :: starEach es X.env) : PA X (a :: es) (rA Γ W fun ρ S => (fa ρ S).bind fun x S1 => (fs ρ S1).bind fun xs S2 => .ok (x :: xs) S2) := by
  refine PA.imp (pa_cons ha hr hs) fun σ H Q h => ?_
  obtain ⟨m, S, ρ, st, en, h⟩ := h
  refine ⟨m, S, ρ, st, en, h.bind.imp fun x m1 S1 H1 g st1 h1 v hv => ?_⟩
  refine ⟨m1, S1, ρ, st1, en.grow g, h1.bind.imp fun xs m2 S2 H2 g2 st2 h2 vs hvs => ?_⟩
  refine h2.ok st2 (v :: vs) ?_
  simp only [Cg.brl, BrL]
  exact ⟨v, vs, rfl, Br.grow g2 _ _ hv, hvs⟩
theorem pe_tupp {k : Nat} {n : Nat} (hn : n ≤ 1000) (hl : ∀ ρ S l S', fs ρ S = .ok l S' → l.length = n) (h : PA X es (rA Γ W fs)) : PE X (.Tuple es k pos) (rE Γ W fun ρ S => (fs ρ S).bind fun xs S1 => .ok (.tup xs) S1) := by
  refine PE.imp (pe_tup h) fun σ H Q h => ?_
  obtain ⟨m, S, ρ, st, en, h⟩ := h
  refine ⟨m, S, ρ, st, en, ?_⟩
  cases e : fs ρ S with
  | ok xs S1 =>
    simp only [e, R.bind_ok] at h
    intro m1 H1 g st1 vs hvs
    have hz : vs.length ≤ sizeLine := by
      rw [← BrL.length hvs, hl _ _ _ _ e, sizeLine_eq]
      omega
    have gv : Gives Γ m1 S1 H1 (.tup xs) Q := fun m' H' v g' st' hv => h m' H' (g.trans g') st' v hv
    exact ⟨hz, fun p hp => gv.tup st1 hvs hp⟩
  | exn k w S1 => simp only [e, R.bind_exn] at h; exact h
  | bad => simp only [e, R.bind_bad] at h; exact h.elim
theorem pe_lstt {n : Nat} (hn : n ≤ 1000) (hl : ∀ ρ S l S', fs ρ S = .ok l S' → l.length = n) (h : PA X es (rA Γ W fs)) : PE X (.List es pos) (rE Γ W fun ρ S => (fs ρ S).bind fun xs S1 => .ok (.lst xs) S1) := by
  refine PE.imp (pe_lst h) fun σ H Q h => ?_
  obtain ⟨m, S, ρ, st, en, h⟩ := h
  refine ⟨m, S, ρ, st, en, ?_⟩
  cases e : fs ρ S with
  | ok xs S1 =>
    simp only [e, R.bind_ok] at h
    intro m1 H1 g st1 vs hvs
    have hz : vs.length ≤ sizeLine := by
      rw [← BrL.length hvs, hl _ _ _ _ e, sizeLine_eq]
      omega
    have gv : Gives Γ m1 S1 H1 (.lst xs) Q := fun m' H' v g' st' hv => h m' H' (g.trans g') st' v hv
    exact ⟨hz, fun p hp => gv.lst st1 hvs hp⟩
  | exn k w S1 => simp only [e, R.bind_exn] at h; exact h
  | bad => simp only [e, R.bind_bad] at h; exact h.elim
theorem pe_celll {n : Nat} (hn : n ≤ 1000) (hl : ∀ ρ S l S', fs ρ S = .ok l S' → l.length = n) (h : PA X es (rA Γ W fs)) : PE X (.List es pos) (rE Γ W fun ρ S => (fs ρ S).bind fun xs S1 => .ok (.ref S1.length) (S1 ++ [.lst xs])) := by
  refine PE.imp (pe_lst h) fun σ H Q h => ?_
  obtain ⟨m, S, ρ, st, en, h⟩ := h
  refine ⟨m, S, ρ, st, en, ?_⟩
  cases e : fs ρ S with
  | ok xs S1 =>
    simp only [e, R.bind_ok] at h
    intro m1 H1 g st1 vs hvs
    have hz : vs.length ≤ sizeLine := by
      rw [← BrL.length hvs, hl _ _ _ _ e, sizeLine_eq]
      omega
    have gv : Gives Γ m1 (S1 ++ [.lst xs]) H1 (.ref S1.length) Q := fun m' H' v g' st' hv => h m' H' (g.trans g') st' v hv
    exact ⟨hz, fun p hp => gv.cell st1 hvs hp⟩
  | exn k w S1 => simp only [e, R.bind_exn] at h; exact h
  | bad => simp only [e, R.bind_bad] at h; exact h.elim
/-! ### subscripts -/
theorem pe_ixx (hk : Γ.K = X.K) (ha : PE X a (rE Γ W fa)) (hb : PE X b (rE Γ W fb)) (hs : PlainIx b) : PE X (.Subscript a b pos) (rE Γ W fun ρ S => (fa ρ S).bind fun x S1 => (fb ρ S1).bind fun y S2 => opt (index x y S2) S2) := by
  refine PE.imp (pe_ix (ix_ok hk) ha hb hs) fun σ H Q h => ?_
  refine rE_two h fun x v m1 S1 ρ H1 st en hv h1 => ?_
  refine ⟨m1, S1, ρ, st, en, h1.bind.imp fun y m2 S2 H2 g st2 h2 u hu => ?_⟩
  obtain ⟨d, e, h3⟩ := h2.opt
  exact ⟨m2, S2, x, y, d, st2, Br.grow g _ _ hv, hu, e, fun m' H' w g' st' hw => h3 m' H' g' st' w hw⟩
theorem pe_slLoo {p : Pos} (hk : Γ.K = X.K) (ha : PE X a (rE Γ W fa)) (hb : PE X b (rE Γ W fb)) : PE X (.Subscript a (.Slice (some b) none none p) pos) (rE Γ W fun ρ S => (fa ρ S).bind fun x S1 => (fb ρ S1).bind fun y S2 => match y with
    | .int i => opt (slice x (some i) none S2) S2
    | _ => .bad) := by
  refine PE.imp (pe_slice (sl_ok hk) ha (po_some hb) po_none) fun σ H Q h => ?_
  refine rE_two h fun x v m1 S1 ρ H1 st en hv h1 => ?_
  refine ⟨m1, S1, ρ, st, en, h1.bind.imp fun y m2 S2 H2 g st2 h2 u hu => ?_⟩
  cases y with
  | int i =>
    obtain ⟨d, e, h3⟩ := h2.opt
    exact ⟨i, brInt hu, m2, S2, x, d, st2, Br.grow g _ _ hv, e, fun m' H' w g' st' hw => h3 m' H' g' st' w hw⟩
  | _ => exact (show False from h2).elim
theorem pe_slHii {p : Pos} (hk : Γ.K = X.K) (ha : PE X a (rE Γ W fa)) (hb : PE X b (rE Γ W fb)) : PE X (.Subscript a (.Slice none (some b) none p) pos) (rE Γ W fun ρ S => (fa ρ S).bind fun x S1 => (fb ρ S1).bind fun y S2 => match y with
    | .int i => opt (slice x none (some i) S2) S2
    | _ => .bad) := by
  refine PE.imp (pe_slice (sl_ok hk) ha po_none (po_some hb)) fun σ H Q h => ?_
  refine rE_two h fun x v m1 S1 ρ H1 st en hv h1 => ?_
  refine ⟨m1, S1, ρ, st, en, h1.bind.imp fun y m2 S2 H2 g st2 h2 u hu => ?_⟩
  cases y with
  | int i =>
    obtain ⟨d, e, h3⟩ := h2.opt
    exact ⟨i, brInt hu, m2, S2, x, d, st2, Br.grow g _ _ hv, e, fun m' H' w g' st' hw => h3 m' H' g' st' w hw⟩
  | _ => exact (show False from h2).elim
theorem pe_slLHH {p : Pos} (hk : Γ.K = X.K) (ha : PE X a (rE Γ W fa)) (hb : PE X b (rE Γ W fb)) (hc : PE X c (rE Γ W fc)) : PE X (.Subscript a (.Slice (some b) (some c) none p) pos) (rE Γ W fun ρ S => (fa ρ S).bind fun x S1 => (fb ρ S1).bind fun y S2 => match y with
    | .int i => (fc ρ S2).bind fun z S3 => match z with
      | .int j => opt (slice x (some i) (some j) S3) S3
      | _ => .bad
    | _ => .bad) := by
  refine PE.imp (pe_slice (sl_ok hk) ha (po_some hb) (po_some hc)) fun σ H Q h => ?_
  refine rE_two h fun x v m1 S1 ρ H1 st en hv h1 => ?_
  refine ⟨m1, S1, ρ, st, en, h1.bind.imp fun y m2 S2 H2 g st2 h2 u hu => ?_⟩
  cases y with
  | int i =>
    refine ⟨i, brInt hu, m2, S2, ρ, st2, en.grow g, h2.bind.imp fun z m3 S3 H3 g3 st3 h3 w hw => ?_⟩
    cases z with
    | int j =>
      obtain ⟨d, e, h4⟩ := h3.opt
      exact ⟨j, brInt hw, m3, S3, x, d, st3, Br.grow g3 _ _ (Br.grow g _ _ hv), e, fun m' H' w g' st' hw => h4 m' H' g' st' w hw⟩
    | _ => exact (show False from h3).elim
  | _ => exact (show False from h2).elim
end
end Bh

set_option Elab.async false
set_option linter.all false
set_option maxRecDepth 10000
namespace Bh
open PySem PySem.Spec L2 PyProof.Rows
/-! ### what is in the making -/
def Cg.h (Γ : Cg) (l : List Addr) : Cg := { Γ with hid := l }
section
variable {K : PySem.W.Frag} {hid hid' m : List Addr} {H H' : Hp}
mutual
theorem Br.move (k : ∀ a o, H a = some o → a ∉ hid → H' a = some o ∧ a ∉ hid') : ∀ (d : D) (v : V), Br K hid m H d v → Br K hid' m H' d v
  | .non, _, h => by simpa only [Br] using h
  | .bl _, _, h => by simpa only [Br] using h
  | .int _, _, h => by simpa only [Br] using h
  | .str _, _, h => by simpa only [Br] using h
  | .tup l, v, h => by
    simp only [Br] at h ⊢
    obtain ⟨a, vs, e, q, hl⟩ := h
    refine ⟨a, vs, e, ?_, BrL.move k l vs hl⟩
    rcases q with ⟨q1, q2, q3⟩ | q
    · exact .inl ⟨(k a _ q1 q2).1, (k a _ q1 q2).2, q3⟩
    · exact .inr q
  | .lst l, v, h => by
    simp only [Br] at h ⊢
    obtain ⟨a, vs, e, q1, q2, q3, hl⟩ := h
    exact ⟨a, vs, e, (k a _ q1 q2).1, (k a _ q1 q2).2, q3, BrL.move k l vs hl⟩
  | .frz l, v, h => by
    simp only [Br] at h ⊢
    obtain ⟨a, vs, e, q, hl⟩ := h
    refine ⟨a, vs, e, ?_, BrL.move k l vs hl⟩
    rcases q with ⟨⟨o, q1⟩, q2, q3⟩ | q
    · exact .inl ⟨⟨o, (k a _ q1 q2).1⟩, (k a _ q1 q2).2, q3⟩
    · exact .inr q
  | .ref n, v, h => by
    simp only [Br] at h ⊢
    exact h
  | .exc _ _, _, h => by simp only [Br] at h
  | .lam, _, h => by simp only [Br] at h
theorem BrL.move (k : ∀ a o, H a = some o → a ∉ hid → H' a = some o ∧ a ∉ hid') : ∀ (l : List D) (vs : List V), BrL K hid m H l vs → BrL K hid' m H' l vs
  | [], _, h => by simpa only [BrL] using h
  | d :: l, vs, h => by
    simp only [BrL] at h ⊢
    obtain ⟨v, r, e, h1, h2⟩ := h
    exact ⟨v, r, e, Br.move k d v h1, BrL.move k l r h2⟩
end
end
section
variable {Γ : Cg} {l l' m m' : List Addr} {H H' : Hp} {S : Sto} {ρ : Env} {σ : L2.St}
theorem StOk.move (st : StOk (Γ.h l) m S H) (k : ∀ a o, H a = some o → a ∉ l → H' a = some o ∧ a ∉ l') (hm : ∀ a ∈ l', a ∉ m) (hs : ∀ a ∈ l', NT H' a) (ht : LamX.Tabs Γ.T H') : StOk (Γ.h l') m S H' := by
  refine ⟨st.len, st.nd, hm, hs, fun n a o h1 h2 => ?_, ht⟩
  have ho := st.obj n a o h1 h2
  cases o with
  | lst xs =>
    obtain ⟨vs, e, hl⟩ := ho
    exact ⟨vs, (k a _ e fun z => st.hidm a z (List.mem_of_getElem? h1)).1, BrL.move k _ _ hl⟩
  | ins c fs => exact (show False from ho).elim
/-- a new object is hidden -/
theorem StOk.hide (st : StOk (Γ.h l) m S H) {p : Addr} {o : HO} (hp : H p = none) (hno : ∀ ps, o ≠ .tbl ps) : StOk (Γ.h (p :: l)) m S (upd H p o) := by
  have sm : ∀ b u, H b = some u → upd H p o b = some u := fun b u h => by rw [upd_ne (ne_of_none h hp)]; exact h
  obtain ⟨n1, n2⟩ := st.notIn hp
  refine st.move (fun a u h n => ⟨sm _ _ h, fun z => ?_⟩) (fun a h => ?_) (fun a h => ?_) (st.tabs.ext sm)
  · rcases List.mem_cons.mp z with q | q
    · rw [q, hp] at h; cases h
    · exact n q
  · rcases List.mem_cons.mp h with q | q
    · rw [q]; exact n1
    · exact st.hidm a q
  · rcases List.mem_cons.mp h with q | q
    · exact ⟨o, by rw [q, upd_same], hno⟩
    · obtain ⟨x, e, n⟩ := st.hids a q
      exact ⟨x, sm _ _ e, n⟩
/-- the hidden one is written -/
theorem keepHid {p : Addr} {o : HO} (hp : p ∈ l) : ∀ a u, H a = some u → a ∉ l → upd H p o a = some u ∧ a ∉ l := fun a u h n => ⟨by rw [upd_ne fun e => n (by rw [e]; exact hp)]; exact h, n⟩
theorem StOk.wrote (st : StOk (Γ.h l) m S H) {p : Addr} {xs ys : List V} (hp : p ∈ l) (hx : H p = some (.lst xs)) : StOk (Γ.h l) m S (upd H p (.lst ys)) := by
  refine st.move (keepHid hp) st.hidm (fun a h => ?_) fun q hq => ?_
  · by_cases e : a = p
    · exact ⟨_, by rw [e, upd_same], lst_nt⟩
    · obtain ⟨x, h1, n⟩ := st.hids a h
      exact ⟨x, by rw [upd_ne e]; exact h1, n⟩
  · obtain ⟨ps, a1, a2, a3⟩ := st.tabs q hq
    refine ⟨ps, by rw [upd_ne (ne_of a1 hx (by intro z; cases z))]; exact a1, a2, fun pos cv hc => ?_⟩
    obtain ⟨c, e1, e2⟩ := a3 pos cv hc
    exact ⟨c, e1, by rw [upd_ne (ne_of e2 hx (by intro z; unfold LamX.CodeO at z; cases z))]; exact e2⟩
/-- it is shown again -/
theorem StOk.show (st : StOk (Γ.h (p :: l)) m S H) : StOk (Γ.h l) m S H :=
  st.move (fun a u h n => ⟨h, fun z => n (List.mem_cons_of_mem _ z)⟩) (fun a h => st.hidm a (List.mem_cons_of_mem _ h)) (fun a h => st.hids a (List.mem_cons_of_mem _ h)) st.tabs
end
/-! ### data moved -/
section
variable {K : PySem.W.Frag} {hid hid' m m' : List Addr} {H H' : Hp}
mutual
theorem Br.mv (k : ∀ a o, H a = some o → a ∉ hid → a ∉ m → (∀ ps, o ≠ .tbl ps) → H' a = some o ∧ a ∉ hid' ∧ a ∉ m') (t : ∀ (n : Nat) (a : Addr), m[n]? = some a → m'[n]? = some a) : ∀ (d : D) (v : V), Br K hid m H d v → Br K hid' m' H' d v
  | .non, _, h => by simpa only [Br] using h
  | .bl _, _, h => by simpa only [Br] using h
  | .int _, _, h => by simpa only [Br] using h
  | .str _, _, h => by simpa only [Br] using h
  | .tup l, v, h => by
    simp only [Br] at h ⊢
    obtain ⟨a, vs, e, q, hl⟩ := h
    refine ⟨a, vs, e, ?_, BrL.mv k t l vs hl⟩
    rcases q with ⟨q1, q2, q3⟩ | q
    · exact .inl (k a _ q1 q2 q3 fun ps z => by cases z)
    · exact .inr q
  | .lst l, v, h => by
    simp only [Br] at h ⊢
    obtain ⟨a, vs, e, q1, q2, q3, hl⟩ := h
    obtain ⟨k1, k2, k3⟩ := k a _ q1 q2 q3 fun ps z => by cases z
    exact ⟨a, vs, e, k1, k2, k3, BrL.mv k t l vs hl⟩
  | .frz l, v, h => by
    simp only [Br] at h ⊢
    obtain ⟨a, vs, e, q, hl⟩ := h
    refine ⟨a, vs, e, ?_, BrL.mv k t l vs hl⟩
    rcases q with ⟨⟨o, q1⟩, q2, q3⟩ | q
    · obtain ⟨k1, k2, k3⟩ := k a _ q1 q2 q3 fun ps z => by cases z
      exact .inl ⟨⟨o, k1⟩, k2, k3⟩
    · exact .inr q
  | .ref n, v, h => by
    simp only [Br] at h ⊢
    obtain ⟨a, h1, h2⟩ := h
    exact ⟨a, t n a h1, h2⟩
  | .exc _ _, _, h => by simp only [Br] at h
  | .lam, _, h => by simp only [Br] at h
theorem BrL.mv (k : ∀ a o, H a = some o → a ∉ hid → a ∉ m → (∀ ps, o ≠ .tbl ps) → H' a = some o ∧ a ∉ hid' ∧ a ∉ m') (t : ∀ (n : Nat) (a : Addr), m[n]? = some a → m'[n]? = some a) : ∀ (l : List D) (vs : List V), BrL K hid m H l vs → BrL K hid' m' H' l vs
  | [], _, h => by simpa only [BrL] using h
  | d :: l, vs, h => by
    simp only [BrL] at h ⊢
    obtain ⟨v, r, e, h1, h2⟩ := h
    exact ⟨v, r, e, Br.mv k t d v h1, BrL.mv k t l r h2⟩
end
end
/-! ### what a loop goes over -/
/-- grown since, but for what is in the making -/
structure GrowX (l m : List Addr) (H : Hp) (m' : List Addr) (H' : Hp) : Prop where
  ix : ∀ (n : Nat) (a : Addr), m[n]? = some a → m'[n]? = some a
  keep : ∀ b o, H b = some o → b ∉ l → b ∉ m → (∀ ps, o ≠ .tbl ps) → H' b = some o ∧ b ∉ m'
theorem Grow.toX {l m m' : List Addr} {H H' : Hp} (g : Grow m H m' H') : GrowX l m H m' H' := ⟨fun n a e => g.at_ e, fun b o e _ n t => ⟨g.keep b o e n t, g.out ⟨o, e, t⟩ n⟩⟩
theorem GrowX.trans {l m m' m2 : List Addr} {H H' H2 : Hp} (x : GrowX l m H m' H') (g : Grow m' H' m2 H2) : GrowX l m H m2 H2 := ⟨fun n a e => g.at_ (x.ix n a e), fun b o e nl n t => by
  obtain ⟨k1, k2⟩ := x.keep b o e nl n t
  exact ⟨g.keep b o k1 k2 t, g.out ⟨o, k1, t⟩ k2⟩⟩
theorem GrowX.wr {l m m' : List Addr} {H H' : Hp} {p : Addr} (x : GrowX l m H m' H') (hp : p ∈ l) (o : HO) : GrowX l m H m' (upd H' p o) := ⟨x.ix, fun b u e nl n t => by
  obtain ⟨k1, k2⟩ := x.keep b u e nl n t
  exact ⟨by rw [upd_ne fun z => nl (by rw [z]; exact hp)]; exact k1, k2⟩⟩
/-- J yields what bears the items ds, from m, H on, whatever is in the making since -/
def Walk (Γ : Cg) (l : List Addr) (J : L2.It) (ds : List D) (m : List Addr) (H : Hp) : Prop :=
  ∀ (l' : List Addr), (∀ a ∈ l', a ∈ l ∨ H a = none) → ∀ (i : Nat) (m' : List Addr) (S' : Sto) (H' : Hp), GrowX l m H m' H' → StOk (Γ.h l') m' S' H' →
    (∀ d, ds[i]? = some d → J.go i H' ∧ ∀ x H2, J.yld i H' x H2 → Grow m' H' m' H2 ∧ (∀ a ∈ l', H2 a = H' a) ∧ StOk (Γ.h l') m' S' H2 ∧ (Γ.h l').br m' H2 d x) ∧ (ds.length = i → J.stop i H')
section
variable {Γ : Cg} {l m : List Addr} {H : Hp} {K : PySem.W.Frag}
theorem brl_X {l' m' : List Addr} {H' : Hp} {ds : List D} {vs : List V} (h : (Γ.h l).brl m H ds vs) (hl : ∀ a ∈ l', a ∈ l ∨ H a = none) (g : GrowX l m H m' H') : (Γ.h l').brl m' H' ds vs :=
  BrL.mv (fun a o e n q t => ⟨(g.keep a o e n q t).1, fun z => (hl a z).elim n (fun q => by rw [q] at e; cases e), (g.keep a o e n q t).2⟩) g.ix _ _ h
theorem GrowX.sqL {m' : List Addr} {H' : Hp} {a : Addr} {xs : List V} (g : GrowX l m H m' H') (h : SqL K H a xs) (nl : a ∉ l) (n : a ∉ m) : SqL K H' a xs := by
  rcases h with (h | ⟨o, h⟩) | h
  · exact .inl (.inl (g.keep a _ h nl n fun ps z => by cases z).1)
  · exact .inl (.inr ⟨o, (g.keep a _ h nl n fun ps z => by cases z).1⟩)
  · exact .inr h
theorem GrowX.sqT {m' : List Addr} {H' : Hp} {a : Addr} {xs : List V} (g : GrowX l m H m' H') (h : SqT K H a xs) (nl : a ∉ l) (n : a ∉ m) : SqT K H' a xs := by
  rcases h with (h | ⟨o, h⟩) | h
  · exact .inl (.inl (g.keep a _ h nl n fun ps z => by cases z).1)
  · exact .inl (.inr ⟨o, (g.keep a _ h nl n fun ps z => by cases z).1⟩)
  · exact .inr h
theorem Grow.sqL {m' : List Addr} {H' : Hp} {a : Addr} {xs : List V} (g : Grow m H m' H') (h : SqL K H a xs) (n : a ∉ m) : SqL K H' a xs := by
  rcases h with (h | ⟨o, h⟩) | h
  · exact .inl (.inl (g.keep a _ h n fun ps z => by cases z))
  · exact .inl (.inr ⟨o, g.keep a _ h n fun ps z => by cases z⟩)
  · exact .inr h
theorem Grow.sqT {m' : List Addr} {H' : Hp} {a : Addr} {xs : List V} (g : Grow m H m' H') (h : SqT K H a xs) (n : a ∉ m) : SqT K H' a xs := by
  rcases h with (h | ⟨o, h⟩) | h
  · exact .inl (.inl (g.keep a _ h n fun ps z => by cases z))
  · exact .inl (.inr ⟨o, g.keep a _ h n fun ps z => by cases z⟩)
  · exact .inr h
end
end Bh

set_option Elab.async false
set_option linter.all false
set_option maxRecDepth 10000
namespace Bh
open PySem PySem.Spec L2 PyProof.Rows
section
variable {Γ : Cg} {l m : List Addr} {H : Hp} {K : PySem.W.Frag}
/-- a sequence that nobody writes to -/
theorem seq_stays {d : D} {ds : List D} {v : V} (h : Γ.br m H d v) (e : seqD d = some ds) : ∃ a vs, v = .ref a ∧ Γ.brl m H ds vs ∧ ((∀ m' H', GrowX Γ.hid m H m' H' → SqT Γ.K H' a vs) ∨ (∀ m' H', GrowX Γ.hid m H m' H' → SqL Γ.K H' a vs)) := by
  cases d with
  | tup l =>
    cases e
    simp only [Cg.br, Br] at h
    obtain ⟨a, vs, e, q, hl⟩ := h
    refine ⟨a, vs, e, hl, .inl fun m' H' g => ?_⟩
    rcases q with ⟨q1, q2, q3⟩ | q
    · exact g.sqT (.inl (.inl q1)) q2 q3
    · rcases q with (q | ⟨_, q⟩) | q
      · cases q
      · cases q
      · exact .inr q
  | lst l =>
    cases e
    simp only [Cg.br, Br] at h
    obtain ⟨a, vs, e, q1, q2, q3, hl⟩ := h
    exact ⟨a, vs, e, hl, .inr fun m' H' g => g.sqL (.inl (.inl q1)) q2 q3⟩
  | frz l =>
    cases e
    simp only [Cg.br, Br] at h
    obtain ⟨a, vs, e, q, hl⟩ := h
    refine ⟨a, vs, e, hl, .inr fun m' H' g => ?_⟩
    rcases q with ⟨⟨o, q1⟩, q2, q3⟩ | q
    · exact g.sqL (.inl (.inr ⟨o, q1⟩)) q2 q3
    · rcases q with (q | ⟨_, q⟩) | q
      · cases q
      · cases q
      · exact .inr q
  | _ => cases e
theorem lst_stays {l : List D} {v : V} (h : Γ.br m H (.lst l) v) : ∃ a vs, v = .ref a ∧ Γ.brl m H l vs ∧ ∀ m' H', GrowX Γ.hid m H m' H' → SqL Γ.K H' a vs := by
  simp only [Cg.br, Br] at h
  obtain ⟨a, vs, e, q1, q2, q3, hl⟩ := h
  exact ⟨a, vs, e, hl, fun m' H' g => g.sqL (.inl (.inl q1)) q2 q3⟩
theorem walk_lst {a : Addr} {ds : List D} {vs : List V} (hb : (Γ.h l).brl m H ds vs) (hs : ∀ m' H', GrowX l m H m' H' → SqL K H' a vs) : Walk Γ l (Itl K a) ds m H := fun l' hl i m' S' H' g st => by
  have hb' := brl_X hb hl g
  refine ⟨fun d e => ?_, fun e => ⟨vs, hs _ _ g, by rw [← BrL.length hb]; exact Nat.le_of_eq e⟩⟩
  obtain ⟨v, e1, e2⟩ := BrL.get hb' e
  refine ⟨⟨vs, v, hs _ _ g, e1⟩, fun x H2 y => ?_⟩
  obtain ⟨eH, y⟩ := y
  subst eH
  have e3 := y _ (hs _ _ g)
  rw [e1] at e3
  cases e3
  exact ⟨.refl, fun _ _ => rfl, st, e2⟩
theorem walk_tup {a : Addr} {ds : List D} {vs : List V} (hb : (Γ.h l).brl m H ds vs) (hs : ∀ m' H', GrowX l m H m' H' → SqT K H' a vs) : Walk Γ l (Itt K a) ds m H := fun l' hl i m' S' H' g st => by
  have hb' := brl_X hb hl g
  refine ⟨fun d e => ?_, fun e => ⟨vs, hs _ _ g, by rw [← BrL.length hb]; exact Nat.le_of_eq e⟩⟩
  obtain ⟨v, e1, e2⟩ := BrL.get hb' e
  refine ⟨⟨vs, v, hs _ _ g, e1⟩, fun x H2 y => ?_⟩
  obtain ⟨eH, y⟩ := y
  subst eH
  have e3 := y _ (hs _ _ g)
  rw [e1] at e3
  cases e3
  exact ⟨.refl, fun _ _ => rfl, st, e2⟩
theorem rangeD_get : ∀ {n : Nat} {lo : Int} {i : Nat}, (rangeD lo n)[i]? = if i < n then some (.int (lo + i)) else none
  | 0, lo, i => by simp [rangeD]
  | n + 1, lo, 0 => by simp [rangeD]
  | n + 1, lo, i + 1 => by
    simp only [rangeD, List.getElem?_cons_succ]
    rw [rangeD_get]
    by_cases h : i < n
    · rw [if_pos h, if_pos (by omega)]
      congr 2
      omega
    · rw [if_neg h, if_neg (by omega)]
theorem rangeD_length : ∀ {n : Nat} {lo : Int}, (rangeD lo n).length = n
  | 0, _ => rfl
  | n + 1, lo => by simp [rangeD, rangeD_length]
theorem walk_range {lo : Int} {n : Nat} : Walk Γ l (Itr lo n) (rangeD lo n) m H := fun l' hl i m' S' H' g st => by
  refine ⟨fun d e => ?_, fun e => by rw [rangeD_length] at e; exact Nat.le_of_eq e⟩
  rw [rangeD_get] at e
  by_cases h : i < n
  · rw [if_pos h] at e
    cases e
    refine ⟨h, fun x H2 y => ?_⟩
    obtain ⟨eH, y⟩ := y
    subst eH y
    exact ⟨.refl, fun _ _ => rfl, st, by simp [Cg.br, Br]⟩
  · rw [if_neg h] at e
    cases e
theorem enumD_get : ∀ {ds : List D} {k i : Nat}, (enumD ds k)[i]? = (ds[i]?).map fun d => .tup [.int ((k + i : Nat) : Int), d]
  | [], k, i => by simp [enumD]
  | d :: ds, k, 0 => by simp [enumD]
  | d :: ds, k, i + 1 => by
    simp only [enumD, List.getElem?_cons_succ]
    rw [enumD_get, show k + 1 + i = k + (i + 1) by omega]
theorem enumD_length : ∀ {ds : List D} {k : Nat}, (enumD ds k).length = ds.length
  | [], _ => rfl
  | d :: ds, k => by simp [enumD, enumD_length]
theorem StOk.newt {S : Sto} (st : StOk Γ m S H) {p : Addr} {o : HO} (hp : H p = none) : StOk Γ m S (upd H p o) := st.new hp
theorem walk_enum {a : Addr} {ds : List D} {vs : List V} (hb : (Γ.h l).brl m H ds vs) (hs : ∀ m' H', GrowX l m H m' H' → SqL K H' a vs) : Walk Γ l (Ite K a) (enumD ds 0) m H := fun l' hl i m' S' H' g st => by
  have hb' := brl_X hb hl g
  refine ⟨fun d e => ?_, fun e => ⟨vs, hs _ _ g, by rw [← BrL.length hb]; rw [enumD_length] at e; exact Nat.le_of_eq e⟩⟩
  rw [enumD_get] at e
  obtain ⟨d', e', rfl⟩ := Option.map_eq_some_iff.mp e
  obtain ⟨v, e1, e2⟩ := BrL.get hb' e'
  refine ⟨⟨vs, v, hs _ _ g, e1⟩, fun x H2 y => ?_⟩
  obtain ⟨T, x', rfl, hT, rfl, y⟩ := y
  have e3 := y _ (hs _ _ g)
  rw [e1] at e3
  cases e3
  obtain ⟨n1, n2⟩ := st.notIn hT
  have gT : Grow m' H' m' (upd H' T (.tup [.int (i : Nat), v])) := Grow.new hT
  refine ⟨gT, fun a ha => upd_ne fun e => ?_, st.new hT, ?_⟩
  · subst e
    exact (st.hids _ ha).ne hT
  · refine Br.newTup upd_same n2 n1 ?_
    simp only [BrL]
    refine ⟨_, _, rfl, ?_, v, [], rfl, Br.grow gT _ _ e2, rfl⟩
    simp [Br]
end
/-! ### iterators' readings -/
section
variable {Γ : Cg} {X : Cx} {W : WX} {a b e tg : Expr} {fa fb : Env → Sto → R D} {fs : Env → Sto → R (List D)} {pos p : Pos}
def rIt (Γ : Cg) (W : WX) (f : Env → Sto → R (List D)) : TI := fun σ H R => ∃ m S ρ, StOk Γ m S H ∧ EnvOk Γ m H ρ σ ∧ Sat Γ (fun c d H' => W c d σ H') m H (f ρ S) (fun ds m' _ H' => ∀ J, Walk Γ Γ.hid J ds m' H' → R J H')
theorem PI.imp {t t' : TI} (h : PI X tg e t) (k : ∀ σ H R, t' σ H R → t σ H R) : PI X tg e t' := ⟨fun pins s σ H R I q => h.run pins s σ H R I (k σ H R q)⟩
/-- a list or a tuple -/
def iSeq (K : PySem.W.Frag) (tl : TE) : TI := fun σ H R => tl σ H fun x H1 => ∃ p, x = .ref p ∧ (((∃ xs, SqL K H1 p xs) ∧ R (Itl K p) H1) ∨ ((∃ xs, SqT K H1 p xs) ∧ R (Itt K p) H1))
theorem pi_seq {tl : TE} (hl : PE X e tl) : PI X tg e (iSeq X.K tl) := by
  refine ⟨fun pins s σ H R I h => thn (hl.run pins s σ H _ I h) fun v s1 ⟨x, H1, I1, r1, p, ep, q⟩ => ?_⟩
  subst ep
  cases r1
  have fin : ∀ {b : Addr} {s' : Shared}, b ∈ [s1.heap.objs.size] → FpOk X pins H1 b := fun {b s'} hb => by
    rw [List.mem_singleton.mp hb]
    exact I1.fpOk (Nat.le_refl _) (I1.hok.fresh (Nat.le_refl _))
  rcases q with ⟨⟨xs, hq⟩, q⟩ | ⟨⟨xs, hq⟩, q⟩
  · obtain ⟨us, ru, hu, _⟩ := I1.list hq
    exact wpAny_pyIter_list hu.isList ⟨s1.heap.objs.size, [s1.heap.objs.size], _, _, H1, rfl, I1.kept (t' := s1.toks) fun b o z => Heap.get?_push_of_some _ z, turn_list p _, ⟨_, Heap.get?_push_size _ rfl, rfl, rfl⟩, fun b hb => fin (s' := s1) hb, q⟩
  · obtain ⟨us, ru, hu, _⟩ := I1.tuple hq
    exact wpAny_pyIter_tuple (show s1.heap.IsTuple p us.toArray from hu) ⟨s1.heap.objs.size, [s1.heap.objs.size], _, _, H1, rfl, I1.kept (t' := s1.toks) fun b o z => Heap.get?_push_of_some _ z, turn_tuple p _, ⟨_, Heap.get?_push_size _ rfl, rfl, rfl⟩, fun b hb => fin (s' := s1) hb, q⟩
theorem pi_seqq (hk : Γ.K = X.K) (ha : PE X a (rE Γ W fa)) : PI X tg a (rIt Γ W fun ρ S => (fa ρ S).bind fun x S1 => opt (seqD x) S1) := by
  refine PI.imp (pi_seq ha) fun σ H R h => ?_
  obtain ⟨m, S, ρ, st, en, h⟩ := h
  refine ⟨m, S, ρ, st, en, h.bind.imp fun x m1 S1 H1 g st1 h1 v hv => ?_⟩
  obtain ⟨ds, e, h2⟩ := h1.opt
  obtain ⟨p, vs, e1, e2, e3⟩ := seq_stays hv e
  rw [hk] at e3
  refine ⟨p, e1, ?_⟩
  rcases e3 with e3 | e3
  · exact .inr ⟨⟨vs, e3 _ _ Grow.refl.toX⟩, h2.ok st1 _ (walk_tup (Γ := Γ) (l := Γ.hid) e2 e3)⟩
  · exact .inl ⟨⟨vs, e3 _ _ Grow.refl.toX⟩, h2.ok st1 _ (walk_lst (Γ := Γ) (l := Γ.hid) e2 e3)⟩
theorem within_iff {i : Int} (h : within62 i = true) : -(2 ^ 62) ≤ i ∧ i < 2 ^ 62 := of_decide_eq_true h
theorem pi_rng1 (hg : Gl X "range") (hm : X.mg "range" = none) (ha : PA X [a] (rA Γ W fs)) (hs : starEach [a] X.env = [(false, eval a X.env)]) :
    PI X tg (.Call (.Name "range" p) [a] [] pos) (rIt Γ W fun ρ S => (fs ρ S).bind fun xs S1 => match xs with
      | [.int n] => if within62 n then .ok (rangeD 0 n.toNat) S1 else .bad
      | _ => .bad) := by
  refine PI.imp (pi_range1 hg hm ha hs) fun σ H R h => ?_
  obtain ⟨m, S, ρ, st, en, h⟩ := h
  refine ⟨m, S, ρ, st, en, h.bind.imp fun xs m1 S1 H1 g st1 h1 vs hv => ?_⟩
  cases xs with
  | nil => exact (show False from h1).elim
  | cons x xs =>
    cases x with
    | int n =>
      cases xs with
      | nil =>
        simp only [Cg.brl, BrL, Br] at hv
        obtain ⟨v, r, rfl, rfl, rfl⟩ := hv
        dsimp only at h1
        by_cases c : within62 n = true
        · rw [if_pos c] at h1
          exact ⟨n, rfl, (within_iff c).1, (within_iff c).2, h1.ok st1 _ walk_range⟩
        · rw [if_neg c] at h1
          exact (show False from h1).elim
      | cons y xs => exact (show False from h1).elim
    | _ => exact (show False from h1).elim
theorem pi_rng2 (hg : Gl X "range") (hm : X.mg "range" = none) (ha : PA X [a, b] (rA Γ W fs)) (hs : starEach [a, b] X.env = [(false, eval a X.env), (false, eval b X.env)]) (hs2 : starEach [b] X.env = [(false, eval b X.env)]) :
    PI X tg (.Call (.Name "range" p) [a, b] [] pos) (rIt Γ W fun ρ S => (fs ρ S).bind fun xs S1 => match xs with
      | [.int i, .int j] => if within62 i && within62 j then .ok (rangeD i (j - i).toNat) S1 else .bad
      | _ => .bad) := by
  refine PI.imp (pi_range2 hg hm ha hs hs2) fun σ H R h => ?_
  obtain ⟨m, S, ρ, st, en, h⟩ := h
  refine ⟨m, S, ρ, st, en, h.bind.imp fun xs m1 S1 H1 g st1 h1 vs hv => ?_⟩
  have key : ∀ {i j : Int}, xs = [.int i, .int j] → ∃ i j : Int, vs = [.int i, .int j] ∧ (-(2 ^ 62) ≤ i ∧ i < 2 ^ 62 ∧ -(2 ^ 62) ≤ j ∧ j < 2 ^ 62) ∧ R (Itr i (j - i).toNat) H1 := fun {i j} e => by
    subst e
    simp only [Cg.brl, BrL, Br] at hv
    obtain ⟨v, r, rfl, rfl, w, r, rfl, rfl, rfl⟩ := hv
    dsimp only at h1
    by_cases c : (within62 i && within62 j) = true
    · rw [if_pos c] at h1
      obtain ⟨c1, c2⟩ := Bool.and_eq_true_iff.mp c
      exact ⟨i, j, rfl, ⟨(within_iff c1).1, (within_iff c1).2, (within_iff c2).1, (within_iff c2).2⟩, h1.ok st1 _ walk_range⟩
    · rw [if_neg c] at h1
      exact (show False from h1).elim
  split at h1
  · exact key rfl
  · exact (show False from h1).elim
theorem pi_enumm {elts : List Expr} {kk : Nat} {tpos : Pos} (hk : Γ.K = X.K) (hg : Gl X "enumerate") (hm : X.mg "enumerate" = none) (ha : PA X [a] (rA Γ W fs)) (hs : starEach [a] X.env = [(false, eval a X.env)]) :
    PI X (.Tuple elts kk tpos) (.Call (.Name "enumerate" p) [a] [] pos) (rIt Γ W fun ρ S => (fs ρ S).bind fun xs S1 => match xs with
      | [.lst l] => .ok (enumD l 0) S1
      | _ => .bad) := by
  refine PI.imp (pi_enum hg hm ha hs) fun σ H R h => ?_
  obtain ⟨m, S, ρ, st, en, h⟩ := h
  refine ⟨m, S, ρ, st, en, h.bind.imp fun xs m1 S1 H1 g st1 h1 vs hv => ?_⟩
  split at h1
  · simp only [Cg.brl, BrL] at hv
    obtain ⟨v, r, rfl, hv, rfl⟩ := hv
    obtain ⟨p, us, e1, e2, e4⟩ := lst_stays hv
    rw [hk] at e4
    subst e1
    exact ⟨p, us, rfl, e4 _ _ Grow.refl.toX, h1.ok st1 _ (walk_enum (Γ := Γ) (l := Γ.hid) e2 e4)⟩
  · exact (show False from h1).elim
end
end Bh

set_option Elab.async false
set_option linter.all false
set_option maxRecDepth 100000
namespace Bh
open PySem PySem.Spec L2 PyProof.Rows AutoSeq1
/-! ### enumerate(t), t a tuple -/
set_option maxHeartbeats 2000000 in
theorem enum_new_tup (t : Addr) (items : Array Value) (n : Nat) (dd : Option Addr) (sl : Array (Option Value)) : Meets (Builtin.«enumerate.__new__» ⟨[.type "enumerate", .ref t], []⟩) (fun _ R s => s.heap.get? t = some { cls := .type "tuple", dict := dd, data := .seq items n, slots := sl } ∧
    R (.ok (.ret (.ref (s.heap.push { cls := .type "tuple_iterator", data := .fields #[.ref t, .int 0 0] }).objs.size))) { s with heap := (s.heap.push { cls := .type "tuple_iterator", data := .fields #[.ref t, .int 0 0] }).push { cls := .type "enumerate", data := .fields #[.none, .bool false, .ref s.heap.objs.size, rawInt 0, .none, .none] } }) :=
  .of_wp fun prog w A R s h => by
    obtain ⟨hp, g, d, tk, os⟩ := s
    obtain ⟨hl, h⟩ := h
    have hsub := sub_enumerate
    have hT : Heap.IsTuple (Shared.heap ⟨hp, g, d, tk, os⟩) t items := ⟨_, hl, rfl, n, rfl⟩
    wp_walk using wpAny_loadPart' hl
    refine wpAny_stack_any fun st => wpAny_pure ?_
    have fin : ∀ {b : Bool}, wpAny (model prog w) A (pyIter (.ref t)) (fun v s' => v = .ref hp.objs.size ∧ s' = ⟨hp.push { cls := .type "tuple_iterator", data := .fields #[.ref t, .int 0 0] }, g, d, tk, os⟩) (fun _ _ => False) ⟨hp, g, d, tk, os⟩ := wpAny_pyIter_tuple hT ⟨rfl, rfl⟩
    split
    · rename_i c _ _ _ _ _
      cases (c == Value.type "enumerate") <;> (wp_walk using wpAny_loadPart' hl, wpAny_pyIter_tuple hT; exact ⟨_, rfl, h⟩)
    · wp_walk using wpAny_loadPart' hl, wpAny_pyIter_tuple hT
      exact ⟨_, rfl, h⟩
section
variable {prog : Program} {w : World} {A : Around} {E : Value → Shared → Prop} {s : Shared}
theorem enum_tup {t : Addr} {items : Array Value} {Q : Value → Shared → Prop} (hT : s.heap.IsTuple t items)
    (h : ∀ h', IsEnum h' (s.heap.objs.size + 1) s.heap.objs.size 0 .none → h'.IsTupleIter s.heap.objs.size t 0 → (∀ b o, s.heap.get? b = some o → h'.get? b = some o) → Q (.ref (s.heap.objs.size + 1)) { s with heap := h' }) : wpAny (model prog w) A (call (.type "enumerate") [.ref t]) Q E s := by
  obtain ⟨⟨c, dd, dt, sl⟩, hl, hc, n, hd⟩ := hT
  simp only at hc hd
  subst hc hd
  refine callType_new F.called_enumerate (by decide) (F.typeCall_enumerate_1 _) (F.newCall_enumerate_1 _) (fun obj => F.args_object_init_2 obj _) F.entry_enumerate_new (enum_new_tup t items n dd sl) ⟨hl, ?_⟩
  have z1 : (s.heap.push { cls := .type "tuple_iterator", data := .fields #[.ref t, .int 0 0] }).objs.size = s.heap.objs.size + 1 := Heap.size_push ..
  show _ ∧ _
  rw [z1]
  have z2 : IsEnum ((s.heap.push { cls := .type "tuple_iterator", data := .fields #[.ref t, .int 0 0] }).push { cls := .type "enumerate", data := .fields #[.none, .bool false, .ref s.heap.objs.size, rawInt 0, .none, .none] }) (s.heap.objs.size + 1) s.heap.objs.size 0 .none := by
    have q := Heap.get?_push_size (s.heap.push { cls := .type "tuple_iterator", data := .fields #[.ref t, .int 0 0] }) (o := { cls := .type "enumerate", data := .fields #[.none, .bool false, .ref s.heap.objs.size, rawInt 0, .none, .none] }) rfl
    rw [z1] at q
    exact q
  exact ⟨⟨_, z2, rfl⟩, h _ z2 ⟨_, Heap.get?_push_of_some _ (Heap.get?_push_size _ rfl), rfl, rfl⟩ fun b o x => Heap.get?_push_of_some _ (Heap.get?_push_of_some _ x)⟩
end
/-- each item of the tuple at a in a new pair -/
def Iq (K : PySem.W.Frag) (a : Addr) : L2.It :=
  ⟨fun i H => ∃ (xs : List V) (x : V), SqT K H a xs ∧ xs[i]? = some x, fun i H v H' => ∃ T x, v = .ref T ∧ H T = none ∧ H' = upd H T (.tup [.int (i : Nat), x]) ∧ ∀ xs, SqT K H a xs → xs[i]? = some x, fun i H => ∃ xs : List V, SqT K H a xs ∧ xs.length = i⟩
theorem turn_q {P : Program} {w : World} {K : PySem.W.Frag} {elts : List Expr} {kk : Nat} {tpos : Pos} (a e it : Addr) :
    Turn P w K (.Tuple elts kk tpos) (Iq K a) [e, it] e (fun i h => (∃ old, IsEnum h e it ((i : Nat) : Int) old) ∧ h.IsTupleIter it a i ∧ e ≠ it) where
  mem := by simp
  obj := fun i h st b hb => by
    obtain ⟨⟨old, he⟩, ⟨o, ho, hc, hd⟩, _⟩ := st
    rcases (show b = e ∨ b = it by simpa using hb) with z | z
    · cases z
      exact ⟨_, he, fun v q => nomatch q⟩
    · exact ⟨o, by rw [z]; exact ho, fun v q => by rw [hd] at q; cases q⟩
  keep := fun i h h' st k => by
    obtain ⟨⟨old, he⟩, hi, hne⟩ := st
    exact ⟨⟨old, k e (by simp) _ he⟩, hi.at fun o q => k it (by simp) o q, hne⟩
  item := by
    intro X hP hw hK hc i pins s σ H E I hf ⟨⟨old, he⟩, hit, hne⟩ ⟨xs, x, hq, hx⟩
    subst hP hw hK
    obtain ⟨its, rv, p, hz⟩ := I.tuple hq
    obtain ⟨u, hu, ru⟩ := rv.get hx
    have l1 : e < s.heap.objs.size := Heap.lt_size he
    have l2 : it < s.heap.objs.size := by obtain ⟨_, q, _⟩ := hit; exact Heap.lt_size q
    have p' : s.heap.IsTuple a its.toArray := p
    have na : a ≠ it := fun z => by
      obtain ⟨o1, q1, c1, _⟩ := p'
      obtain ⟨o2, q2, c2, _⟩ := hit
      rw [z, q2] at q1
      cases q1
      rw [c2] at c1
      exact absurd (Value.type.inj c1) (by decide)
    have nb : a ≠ e := fun z => by
      obtain ⟨o1, q1, c1, _⟩ := p'
      rw [z, he] at q1
      cases q1
      exact absurd (Value.type.inj c1) (by decide)
    refine wpAny_pyNext_enum_itemD (Draws.tuple (A := X.A.in1) (I.ok.hd hc) it a na its.toArray) he ⟨hit, p'⟩ (i := i) ?_ hne (by simp [hne, Ne.symm nb]) fun y h' tk hy ho hs' hT hsz hk => ?_
    · have := rv.length
      have := (List.getElem?_eq_some_iff.mp hx).1
      rw [List.size_toArray]
      omega
    have ey : y = u := by
      have hy : its.toArray[i]? = some y := hy
      have hu' : its.toArray[i]? = some u := by simpa using hu
      rw [hu'] at hy
      exact (Option.some.inj hy).symm
    subst ey
    refine ⟨_, rfl, wpAny_letOwnedTupleGo_enum (s := { s with heap := h', toks := tk + 1 }) ho fun h2 he2 sb => ?_⟩
    have hT2 : h2.get? s.heap.objs.size = some { cls := .type "tuple", data := .seq #[.int i tk, y] } := (sb.2 _ (Nat.ne_of_gt l1)).trans hT
    have nw : ObjOk X.prog X.w (upd H s.heap.objs.size (.tup [.int (i : Nat), x])) h2 s.heap.objs.size (.tup [.int (i : Nat), x]) := ⟨by show 2 ≤ sizeLine; decide, [.int i tk, y], .cons ⟨_, rfl⟩ (.cons ru .nil), ⟨_, hT2, rfl, _, rfl⟩⟩
    have J : Inv X pins σ (upd H s.heap.objs.size (.tup [.int (i : Nat), x])) { s with heap := h2, toks := tk + 1 } :=
      I.turnedNew (ch := [e, it]) (fun b ob hb q => (sb.2 b fun z => hb (by simp [z])).trans (hk b ob (fun z => hb (by simp [z])) (fun z => hb (by simp [z])) q)) hf (Nat.le_refl _) nw
    refine ⟨.ref s.heap.objs.size, _, J, rfl, ⟨_, x, rfl, I.hok.fresh (Nat.le_refl _), rfl, fun ys hy2 => by rw [I.tuple_inj hy2 hq]; exact hx⟩, ⟨⟨y, ?_⟩, hs'.1.at fun o q => (sb.2 it (Ne.symm hne)).trans q, hne⟩, fun b hb => ?_⟩
    · rw [show ((i + 1 : Nat) : Int) = (i : Int) + 1 by omega]
      exact he2
    · have lb : b < s.heap.objs.size := by
        rcases (show b = e ∨ b = it by simpa using hb) with z | z
        · rw [z]; exact l1
        · rw [z]; exact l2
      rw [upd_ne (Nat.ne_of_lt lb)]
      exact (hf b hb).1
  done := by
    intro X hP hw hK hc i pins s σ H E I hf ⟨⟨old, he⟩, hit, hne⟩ ⟨xs, hq, hx⟩
    subst hP hw hK
    obtain ⟨its, rv, p, hz⟩ := I.tuple hq
    have p' : s.heap.IsTuple a its.toArray := p
    have na : a ≠ it := fun z => by
      obtain ⟨o1, q1, c1, _⟩ := p'
      obtain ⟨o2, q2, c2, _⟩ := hit
      rw [z, q2] at q1
      cases q1
      rw [c2] at c1
      exact absurd (Value.type.inj c1) (by decide)
    obtain ⟨f0, f1, f2, f3, f4, f5⟩ := hf it (by simp)
    have hl : its.toArray.size = i := by rw [List.size_toArray, ← rv.length]; exact hx
    exact wpAny_pyNext_enum_endD (Draws.tuple (A := X.A.in1) (I.ok.hd hc) it a na its.toArray) he (by rw [hl]; exact ⟨hit, p'⟩) fun h' eb => ⟨rfl, I.turned (t' := s.toks) (fun b ob hb q => eb b ob hb q) f0 f1 f3 f4 f5⟩
  self := fun A i s Q E st h => by
    obtain ⟨⟨_, he⟩, _⟩ := st
    exact wpAny_pyIter_enum he h
/-! ### enumerate of a list or a tuple -/
section
variable {Γ : Cg} {X : Cx} {W : WX} {a : Expr} {fs : Env → Sto → R (List D)} {pos p : Pos} {m : List Addr} {H : Hp} {l : List Addr}
theorem walk_q {K : PySem.W.Frag} {b : Addr} {ds : List D} {vs : List V} (hb : (Γ.h l).brl m H ds vs) (hs : ∀ m' H', GrowX l m H m' H' → SqT K H' b vs) : Walk Γ l (Iq K b) (enumD ds 0) m H := fun l' hl i m' S' H' g st => by
  have hb' := brl_X hb hl g
  refine ⟨fun d e => ?_, fun e => ⟨vs, hs _ _ g, by rw [← BrL.length hb]; rw [enumD_length] at e; exact e⟩⟩
  rw [enumD_get] at e
  obtain ⟨d', e', rfl⟩ := Option.map_eq_some_iff.mp e
  obtain ⟨v, e1, e2⟩ := BrL.get hb' e'
  refine ⟨⟨vs, v, hs _ _ g, e1⟩, fun x H2 y => ?_⟩
  obtain ⟨T, x', rfl, hT, rfl, y⟩ := y
  have e3 := y _ (hs _ _ g)
  rw [e1] at e3
  cases e3
  obtain ⟨n1, n2⟩ := st.notIn hT
  have gT : Grow m' H' m' (upd H' T (.tup [.int (i : Nat), v])) := Grow.new hT
  refine ⟨gT, fun a ha => upd_ne fun e => ?_, st.new hT, ?_⟩
  · subst e
    exact (st.hids _ ha).ne hT
  · refine Br.newTup upd_same n2 n1 ?_
    simp only [BrL]
    refine ⟨_, _, rfl, ?_, v, [], rfl, Br.grow gT _ _ e2, rfl⟩
    simp [Br]
def iEn (K : PySem.W.Frag) (ta : TA) : TI := fun σ H R => ta σ H fun vs H1 => ∃ b xs, vs = [.ref b] ∧ ((SqL K H1 b xs ∧ R (Ite K b) H1) ∨ (SqT K H1 b xs ∧ R (Iq K b) H1))
theorem pi_en {tpos : Pos} {elts : List Expr} {kk : Nat} {ta : TA} (hg : Gl X "enumerate") (hm : X.mg "enumerate" = none) (ha : PA X [a] ta) (hs : starEach [a] X.env = [(false, eval a X.env)]) : PI X (.Tuple elts kk tpos) (.Call (.Name "enumerate" p) [a] [] pos) (iEn X.K ta) := by
  refine ⟨fun pins s σ H R I h => ?_⟩
  refine Call_ (ld_blt I hg hm boot_enumerate (PyProof.Rows.callWith_type1 (thn (ha.run pos pins s σ H _ I h) fun us s1 ⟨vs, H1, I1, r1, b, xs, ev, q⟩ => ?_) hs rfl))
  subst ev
  obtain ⟨u, rfl, ru⟩ := r1.one
  obtain rfl : u = Value.ref b := ru
  have two : ∀ c ∈ [s1.heap.objs.size + 1, s1.heap.objs.size], FpOk X pins H1 c := fun c hc => by
    have hle : s1.heap.objs.size ≤ c := by
      rcases (show c = s1.heap.objs.size + 1 ∨ c = s1.heap.objs.size by simpa using hc) with z | z <;> omega
    exact I1.fpOk hle (I1.hok.fresh hle)
  rcases q with ⟨hq, q⟩ | ⟨hq, q⟩
  · obtain ⟨its, rv, ht, hz⟩ := I1.list hq
    exact call_enumerate_list ht.isList fun h' he hit _ hk => wpAny_pyIter_enum he ⟨s1.heap.objs.size + 1, [s1.heap.objs.size + 1, s1.heap.objs.size], _, _, H1, rfl, I1.kept (t' := s1.toks) hk, turn_enum b (s1.heap.objs.size + 1) s1.heap.objs.size, ⟨⟨.none, he⟩, hit, Nat.succ_ne_self _⟩, two, q⟩
  · obtain ⟨its, rv, ht, hz⟩ := I1.tuple hq
    exact enum_tup (show s1.heap.IsTuple b its.toArray from ht) fun h' he hit hk => wpAny_pyIter_enum he ⟨s1.heap.objs.size + 1, [s1.heap.objs.size + 1, s1.heap.objs.size], _, _, H1, rfl, I1.kept (t' := s1.toks) hk, turn_q b (s1.heap.objs.size + 1) s1.heap.objs.size, ⟨⟨.none, he⟩, hit, Nat.succ_ne_self _⟩, two, q⟩
def enR (xs : List D) (S : Sto) : R (List D) := match xs with
  | [x] => opt ((seqD x).map fun l => enumD l 0) S
  | _ => .bad
theorem pi_ens {elts : List Expr} {kk : Nat} {tpos : Pos} (hk : Γ.K = X.K) (hg : Gl X "enumerate") (hm : X.mg "enumerate" = none) (ha : PA X [a] (rA Γ W fs)) (hs : starEach [a] X.env = [(false, eval a X.env)]) :
    PI X (.Tuple elts kk tpos) (.Call (.Name "enumerate" p) [a] [] pos) (rIt Γ W fun ρ S => (fs ρ S).bind enR) := by
  refine PI.imp (pi_en hg hm ha hs) fun σ H R h => ?_
  obtain ⟨m, S, ρ, st, en, h⟩ := h
  refine ⟨m, S, ρ, st, en, h.bind.imp fun xs m1 S1 H1 g st1 h1 vs hv => ?_⟩
  unfold enR at h1
  split at h1
  · obtain ⟨ds, e, h2⟩ := h1.opt
    obtain ⟨l, e1, rfl⟩ := Option.map_eq_some_iff.mp e
    obtain ⟨v, rfl, hv2⟩ := brl1 hv
    obtain ⟨b, us, rfl, e2, e3⟩ := seq_stays hv2 e1
    rw [hk] at e3
    refine ⟨b, us, rfl, ?_⟩
    rcases e3 with e3 | e3
    · exact .inr ⟨e3 _ _ Grow.refl.toX, h2.ok st1 _ (walk_q (Γ := Γ) (l := Γ.hid) e2 e3)⟩
    · exact .inl ⟨e3 _ _ Grow.refl.toX, h2.ok st1 _ (walk_enum (Γ := Γ) (l := Γ.hid) e2 e3)⟩
  · exact (show False from h1).elim
/-! ### range by -1, zip -/
theorem rangeDn_get : ∀ {n : Nat} {hi : Int} {i : Nat}, (rangeDn hi n)[i]? = if i < n then some (.int (hi - i)) else none
  | 0, hi, i => by simp [rangeDn]
  | n + 1, hi, 0 => by simp [rangeDn]
  | n + 1, hi, i + 1 => by
    simp only [rangeDn, List.getElem?_cons_succ]
    rw [rangeDn_get]
    by_cases h : i < n
    · rw [if_pos h, if_pos (by omega)]
      congr 2
      omega
    · rw [if_neg h, if_neg (by omega)]
theorem rangeDn_length : ∀ {n : Nat} {hi : Int}, (rangeDn hi n).length = n
  | 0, _ => rfl
  | n + 1, hi => by simp [rangeDn, rangeDn_length]
theorem walk_dn {hi : Int} {n : Nat} : Walk Γ l (Itc hi (-1) n) (rangeDn hi n) m H := fun l' hl i m' S' H' g st => by
  refine ⟨fun d e => ?_, fun e => by rw [rangeDn_length] at e; exact Nat.le_of_eq e⟩
  rw [rangeDn_get] at e
  by_cases h : i < n
  · rw [if_pos h] at e
    cases e
    refine ⟨h, fun x H2 y => ?_⟩
    obtain ⟨eH, y⟩ := y
    subst eH y
    refine ⟨.refl, fun _ _ => rfl, st, ?_⟩
    simp only [Cg.br, Br]
    congr 1
    omega
  · rw [if_neg h] at e
    cases e
def rn3 (xs : List D) (S : Sto) : R (List D) := match xs with
  | [x, y, z] => rng3 x y z S
  | _ => .bad
theorem pi_rng3 {b c tg : Expr} (hg : Gl X "range") (hm : X.mg "range" = none) (ha : PA X [a, b, c] (rA Γ W fs)) (hs : starEach [a, b, c] X.env = (false, eval a X.env) :: starEach [b, c] X.env) (hpl : (backTo pos (starEach [b, c] X.env)).any (·.1) = false) :
    PI X tg (.Call (.Name "range" p) [a, b, c] [] pos) (rIt Γ W fun ρ S => (fs ρ S).bind rn3) := by
  refine PI.imp (pi_range3 hg hm ha hs hpl) fun σ H R h => ?_
  obtain ⟨m, S, ρ, st, en, h⟩ := h
  refine ⟨m, S, ρ, st, en, h.bind.imp fun xs m1 S1 H1 g st1 h1 vs hv => ?_⟩
  unfold rn3 at h1
  split at h1
  · unfold rng3 at h1
    split at h1
    · rename_i x y z i j k
      simp only [Cg.brl, BrL, Br] at hv
      obtain ⟨v, r, rfl, rfl, w, r, rfl, rfl, w2, r2, rfl, rfl, rfl⟩ := hv
      split at h1
      · rename_i c
        simp only [Bool.and_eq_true, decide_eq_true_eq] at c
        obtain ⟨⟨c1, c2⟩, c3⟩ := c
        exact ⟨i, j, k, (i - j).toNat, rfl, by rw [c3]; exact RgC.neg (within_iff c1).1 (within_iff c1).2 (within_iff c2).1 (within_iff c2).2, by rw [c3]; exact h1.ok st1 _ walk_dn⟩
      · exact (show False from h1).elim
    · exact (show False from h1).elim
  · exact (show False from h1).elim
theorem zipD_get : ∀ {l r : List D} {i : Nat} {d : D}, (zipD l r)[i]? = some d → ∃ x y, l[i]? = some x ∧ r[i]? = some y ∧ d = .tup [x, y]
  | [], _, i, d, e => by simp [zipD] at e
  | a :: l, [], i, d, e => by simp [zipD] at e
  | a :: l, b :: r, 0, d, e => by
    simp [zipD] at e
    exact ⟨a, b, rfl, rfl, e.symm⟩
  | a :: l, b :: r, i + 1, d, e => by
    simp only [zipD, List.getElem?_cons_succ] at e
    obtain ⟨x, y, h1, h2, h3⟩ := zipD_get e
    exact ⟨x, y, by simpa using h1, by simpa using h2, h3⟩
theorem zipD_len : ∀ {l r : List D}, (zipD l r).length = min l.length r.length
  | [], _ => by simp [zipD]
  | a :: l, [] => by simp [zipD]
  | a :: l, b :: r => by simp only [zipD, List.length_cons, zipD_len]; omega
theorem walk_zipL {K : PySem.W.Frag} {a b : Addr} {ds es : List D} {vs us : List V} (hb : (Γ.h l).brl m H ds vs) (hs : ∀ m' H', GrowX l m H m' H' → SqL K H' a vs) (hb2 : (Γ.h l).brl m H es us) (hs2 : ∀ m' H', GrowX l m H m' H' → SqL K H' b us) : Walk Γ l (Itz K a b) (zipD ds es) m H := fun l' hl i m' S' H' g st => by
  have hb' := brl_X hb hl g
  have hb2' := brl_X hb2 hl g
  refine ⟨fun d e => ?_, fun e => ⟨vs, us, hs _ _ g, hs2 _ _ g, by rw [← BrL.length hb, ← BrL.length hb2]; rw [zipD_len] at e; omega⟩⟩
  obtain ⟨x, y, q1, q2, rfl⟩ := zipD_get e
  obtain ⟨v, e1, e2⟩ := BrL.get hb' q1
  obtain ⟨u, f1, f2⟩ := BrL.get hb2' q2
  refine ⟨⟨vs, us, v, u, hs _ _ g, hs2 _ _ g, e1, f1⟩, fun z H2 yy => ?_⟩
  obtain ⟨T, x', y', rfl, hT, rfl, y1, y2⟩ := yy
  have e3 := y1 _ (hs _ _ g)
  rw [e1] at e3
  cases e3
  have f3 := y2 _ (hs2 _ _ g)
  rw [f1] at f3
  cases f3
  obtain ⟨n1, n2⟩ := st.notIn hT
  have gT : Grow m' H' m' (upd H' T (.tup [v, u])) := Grow.new hT
  refine ⟨gT, fun a ha => upd_ne fun e => ?_, st.new hT, ?_⟩
  · subst e
    exact (st.hids _ ha).ne hT
  · refine Br.newTup upd_same n2 n1 ?_
    simp only [BrL]
    exact ⟨v, _, rfl, Br.grow gT _ _ e2, u, [], rfl, Br.grow gT _ _ f2, rfl⟩
theorem walk_zipT {K : PySem.W.Frag} {a b : Addr} {ds es : List D} {vs us : List V} (hb : (Γ.h l).brl m H ds vs) (hs : ∀ m' H', GrowX l m H m' H' → SqT K H' a vs) (hb2 : (Γ.h l).brl m H es us) (hs2 : ∀ m' H', GrowX l m H m' H' → SqT K H' b us) : Walk Γ l (RZ.ItzT K a b) (zipD ds es) m H := fun l' hl i m' S' H' g st => by
  have hb' := brl_X hb hl g
  have hb2' := brl_X hb2 hl g
  refine ⟨fun d e => ?_, fun e => ⟨vs, us, hs _ _ g, hs2 _ _ g, by rw [← BrL.length hb, ← BrL.length hb2]; rw [zipD_len] at e; omega⟩⟩
  obtain ⟨x, y, q1, q2, rfl⟩ := zipD_get e
  obtain ⟨v, e1, e2⟩ := BrL.get hb' q1
  obtain ⟨u, f1, f2⟩ := BrL.get hb2' q2
  refine ⟨⟨vs, us, v, u, hs _ _ g, hs2 _ _ g, e1, f1⟩, fun z H2 yy => ?_⟩
  obtain ⟨T, x', y', rfl, hT, rfl, y1, y2⟩ := yy
  have e3 := y1 _ (hs _ _ g)
  rw [e1] at e3
  cases e3
  have f3 := y2 _ (hs2 _ _ g)
  rw [f1] at f3
  cases f3
  obtain ⟨n1, n2⟩ := st.notIn hT
  have gT : Grow m' H' m' (upd H' T (.tup [v, u])) := Grow.new hT
  refine ⟨gT, fun a ha => upd_ne fun e => ?_, st.new hT, ?_⟩
  · subst e
    exact (st.hids _ ha).ne hT
  · refine Br.newTup upd_same n2 n1 ?_
    simp only [BrL]
    exact ⟨v, _, rfl, Br.grow gT _ _ e2, u, [], rfl, Br.grow gT _ _ f2, rfl⟩
def zp2 (xs : List D) (S : Sto) : R (List D) := match xs with
  | [x, y] => opt (zip2D x y) S
  | _ => .bad
theorem tup_stays {l : List D} {v : V} (h : Γ.br m H (.tup l) v) : ∃ a vs, v = .ref a ∧ Γ.brl m H l vs ∧ ∀ m' H', GrowX Γ.hid m H m' H' → SqT Γ.K H' a vs := by
  simp only [Cg.br, Br] at h
  obtain ⟨a, vs, e, q, hl⟩ := h
  refine ⟨a, vs, e, hl, fun m' H' g => ?_⟩
  rcases q with ⟨q1, q2, q3⟩ | q
  · exact g.sqT (.inl (.inl q1)) q2 q3
  · rcases q with (q | ⟨_, q⟩) | q
    · cases q
    · cases q
    · exact .inr q
theorem pi_zip2 {b : Expr} {elts : List Expr} {kk : Nat} {tpos : Pos} (hk : Γ.K = X.K) (hg : Gl X "zip") (hm : X.mg "zip" = none) (ha : PA X [a, b] (rA Γ W fs)) (hs : starEach [a, b] X.env = (false, eval a X.env) :: starEach [b] X.env) (hpl : (backTo pos (starEach [b] X.env)).any (·.1) = false) :
    PI X (.Tuple elts kk tpos) (.Call (.Name "zip" p) [a, b] [] pos) (rIt Γ W fun ρ S => (fs ρ S).bind zp2) := by
  refine PI.imp (RZ.pi_zipA hg hm ha hs hpl) fun σ H R h => ?_
  obtain ⟨m, S, ρ, st, en, h⟩ := h
  refine ⟨m, S, ρ, st, en, h.bind.imp fun xs m1 S1 H1 g st1 h1 vs hv => ?_⟩
  unfold zp2 at h1
  split at h1
  · obtain ⟨ds, e, h2⟩ := h1.opt
    obtain ⟨v, u, rfl, hv1, hv2⟩ := brl2 hv
    unfold zip2D at e
    split at e
    · cases e
      obtain ⟨p, vs, rfl, e2, e3⟩ := tup_stays hv1
      obtain ⟨q, us, rfl, f2, f3⟩ := tup_stays hv2
      rw [hk] at e3 f3
      exact ⟨p, q, vs, us, rfl, .inr ⟨e3 _ _ Grow.refl.toX, f3 _ _ Grow.refl.toX, h2.ok st1 _ (walk_zipT (Γ := Γ) (l := Γ.hid) e2 e3 f2 f3)⟩⟩
    · cases e
      obtain ⟨p, vs, rfl, e2, e3⟩ := lst_stays hv1
      obtain ⟨q, us, rfl, f2, f3⟩ := lst_stays hv2
      rw [hk] at e3 f3
      exact ⟨p, q, vs, us, rfl, .inl ⟨e3 _ _ Grow.refl.toX, f3 _ _ Grow.refl.toX, h2.ok st1 _ (walk_zipL (Γ := Γ) (l := Γ.hid) e2 e3 f2 f3)⟩⟩
    · cases e
  · exact (show False from h1).elim
end
end Bh

set_option Elab.async false
set_option linter.all false
set_option maxRecDepth 10000
namespace Bh
open PySem PySem.Spec L2 PyProof.Rows
/-! ### targets -/
/-- all but the slots l is kept -/
def Apart (l : List Nat) (σ σ' : L2.St) : Prop := σ'.length = σ.length ∧ ∀ j, j ∉ l → σ'[j]? = σ[j]?
section
variable {Γ : Cg} {X : Cx} {m : List Addr} {H : Hp} {σ : L2.St} {ρ ρ' : Env} {pos : Pos}
def rG (Γ : Cg) (tg : Tg) : TG := fun v σ H Q => ∃ l m S ρ d ρ', StOk (Γ.h l) m S H ∧ EnvOk (Γ.h l) m H ρ σ ∧ (Γ.h l).br m H d v ∧ setTg tg d ρ = some ρ' ∧ ∀ σ', EnvOk (Γ.h l) m H ρ' σ' → Apart tg.slots σ σ' → Q σ' H
def rGs (Γ : Cg) (is : List Nat) : TGs := fun vs σ H Q => ∃ l m ρ ds ρ', EnvOk (Γ.h l) m H ρ σ ∧ (Γ.h l).brl m H ds vs ∧ setAll is ds ρ = some ρ' ∧ ∀ σ', EnvOk (Γ.h l) m H ρ' σ' → Apart is σ σ' → Q σ' H
theorem PG.imp {tg : Expr} {t t' : TG} (h : PG X tg t) (k : ∀ v σ H Q, t' v σ H Q → t v σ H Q) : PG X tg t' := ⟨fun pins s σ H v u Q I r q => h.run pins s σ H v u Q I r (k v σ H Q q)⟩
theorem PGs.imp {tg : List Expr} {t t' : TGs} (h : PGs X tg t) (k : ∀ v σ H Q, t' v σ H Q → t v σ H Q) : PGs X tg t' := ⟨fun pins s σ H v u Q I r q => h.run pins s σ H v u Q I r (k v σ H Q q)⟩
theorem Apart.set (i : Nat) (v : Option V) : Apart [i] σ (σ.set i v) := ⟨List.length_set .., fun j hj => List.getElem?_set_ne fun e => hj (by rw [e]; exact List.mem_singleton.mpr rfl)⟩
theorem Apart.trans {l l' : List Nat} {σ1 σ2 : L2.St} (a : Apart l σ σ1) (b : Apart l' σ1 σ2) : Apart (l ++ l') σ σ2 := ⟨b.1.trans a.1, fun j hj => by
  rw [b.2 j fun h => hj (List.mem_append_right _ h), a.2 j fun h => hj (List.mem_append_left _ h)]⟩
theorem pg_nm {i : Nat} {x : Str} (hN : X.N.Nodup) (hi : X.N[i]? = some x) (hx : Loc X.env.scope x) (hf : X.fn x = true ∨ X.env.scope.names.lookup x = some .local) : PG X (.Name x pos) (rG Γ (.nm i)) := by
  refine PG.imp (pg_name hN hi hx hf) fun v σ H Q h => ?_
  obtain ⟨l, m, S, ρ, d, ρ', st, en, hv, e, h⟩ := h
  cases e
  exact h _ (en.set i (BrE.of hv)) (Apart.set i _)
theorem pgs_non : PGs X [] (rGs Γ []) := by
  refine PGs.imp pgs_nil fun vs σ H Q h => ?_
  obtain ⟨l, m, ρ, ds, ρ', en, hv, e, h⟩ := h
  cases ds with
  | nil =>
    cases e
    simp only [Cg.brl, BrL] at hv
    exact ⟨hv, h _ en ⟨rfl, fun j _ => rfl⟩⟩
  | cons d ds => cases e
theorem pgs_one {i : Nat} {is : List Nat} {x : Str} {es : List Expr} (hN : X.N.Nodup) (hi : X.N[i]? = some x) (hx : Loc X.env.scope x) (hf : X.fn x = true ∨ X.env.scope.names.lookup x = some .local) (hr : PGs X es (rGs Γ is)) : PGs X (.Name x pos :: es) (rGs Γ (i :: is)) := by
  refine PGs.imp (pgs_cons (pg_name hN hi hx hf) hr) fun vs σ H Q h => ?_
  obtain ⟨l, m, ρ, ds, ρ', en, hv, e, h⟩ := h
  cases ds with
  | nil => cases e
  | cons d ds =>
    simp only [Cg.brl, BrL] at hv
    obtain ⟨v, r, rfl, h1, h2⟩ := hv
    exact ⟨v, r, rfl, l, m, _, ds, ρ', en.set i (BrE.of h1), h2, e, fun σ' en' ap => h σ' en' ((Apart.set i _).trans ap)⟩
theorem setAll_len : ∀ {is : List Nat} {ds : List D} {ρ ρ' : Env}, setAll is ds ρ = some ρ' → ds.length = is.length
  | [], [], _, _, _ => rfl
  | i :: is, d :: ds, ρ, ρ', e => by simp [setAll_len (ds := ds) e]
  | [], d :: ds, _, _, e => by cases e
  | i :: is, [], _, _, e => by cases e
theorem pg_tp {is : List Nat} {es : List Expr} {k : Nat} (hk : Γ.K = X.K) (hc : X.calm = true) (hr : PGs X es (rGs Γ is)) (hn : (assignEach es X.env).length = is.length) (hst : (assignEach es X.env).findIdx? (·.1) = none) : PG X (.Tuple es k pos) (rG Γ (.tp is)) := by
  refine PG.imp (pg_tup hc hr hn hst) fun v σ H Q h => ?_
  obtain ⟨l, m, S, ρ, d, ρ', st, en, hv, e, h⟩ := h
  cases d with
  | tup ds =>
    obtain ⟨a, vs, e1, e2, e3⟩ := Br.tup hv
    have e2' : SqT X.K H a vs := by rw [← hk]; exact e2
    exact ⟨a, vs, e1, e2', by rw [← BrL.length e3]; exact setAll_len e, l, m, ρ, ds, ρ', en, e3, e, h⟩
  | _ => cases e
theorem setTg2 {i : Nat} {is : List Nat} {d : D} (e : setTg (.tp2 i is) d ρ = some ρ') : ∃ d1 ds, d = .tup [d1, .tup ds] ∧ setAll is ds (ρ.set i (some d1)) = some ρ' := by
  cases d with
  | tup l => match l, e with
    | [d1, .tup ds], e => exact ⟨d1, ds, rfl, e⟩
  | _ => cases e
theorem pg_tp2 {i : Nat} {is : List Nat} {x : Str} {es : List Expr} {k k2 : Nat} {p p2 : Pos} (hk : Γ.K = X.K) (hc : X.calm = true) (hN : X.N.Nodup) (hi : X.N[i]? = some x) (hx : Loc X.env.scope x) (hf : X.fn x = true ∨ X.env.scope.names.lookup x = some .local) (hr : PGs X es (rGs Γ is))
    (hn : (assignEach es X.env).length = is.length) (hst : (assignEach es X.env).findIdx? (·.1) = none) (hn2 : (assignEach [.Name x p, .Tuple es k p2] X.env).length = 2) (hst2 : (assignEach [.Name x p, .Tuple es k p2] X.env).findIdx? (·.1) = none)
    (hs : (assignEach [.Name x p, .Tuple es k p2] X.env).map (·.2) = assign (.Name x p) X.env :: (assignEach [.Tuple es k p2] X.env).map (·.2)) (hs2 : (assignEach [.Tuple es k p2] X.env).map (·.2) = assign (.Tuple es k p2) X.env :: (assignEach [] X.env).map (·.2)) :
    PG X (.Tuple [.Name x p, .Tuple es k p2] k2 pos) (rG Γ (.tp2 i is)) := by
  refine PG.imp (pg_tup hc (pgs_cons (pg_name hN hi hx hf) (pgs_cons (pg_tp (pos := p2) (k := k) hk hc hr hn hst) pgs_nil hs2) hs) hn2 hst2) fun v σ H Q h => ?_
  obtain ⟨l, m, S, ρ, d, ρ', st, en, hv, e, h⟩ := h
  obtain ⟨d1, ds, rfl, e⟩ := setTg2 e
  obtain ⟨a, vs, e1, e2, e3⟩ := Br.tup hv
  have e2' : SqT X.K H a vs := by rw [← hk]; exact e2
  simp only [Cg.brl, BrL] at e3
  obtain ⟨v1, r1, rfl, h1, v2, r2, rfl, h2, rfl⟩ := e3
  exact ⟨a, _, e1, e2', rfl, v1, _, rfl, v2, _, rfl, l, m, S, _, .tup ds, ρ', st, en.set i (BrE.of h1), h2, e, fun σ' en' ap => ⟨rfl, h σ' en' ((Apart.set i _).trans ap)⟩⟩
end
end Bh

set_option Elab.async false
set_option linter.all false
set_option maxRecDepth 10000
namespace Bh
open PySem PySem.Spec L2 PyProof.Rows
section
variable {Γ : Cg} {l m m1 : List Addr} {H H1 : Hp} {S : Sto} {ρ ρ' : Env} {σ : L2.St} {p : Addr}
/-- since p was new -/
theorem EnvOk.since (en : EnvOk (Γ.h l) m1 H1 ρ σ) (hp : H1 p = none) (g : Grow m1 H1 m H) (hm : p ∉ m) : EnvOk (Γ.h (p :: l)) m H ρ σ := ⟨en.len, fun i d e => by
  obtain ⟨v, h1, h2⟩ := en.sl i d e
  refine ⟨v, h1, ?_⟩
  have k : ∀ a o, H1 a = some o → a ∉ l → a ∉ m1 → (∀ ps, o ≠ .tbl ps) → H a = some o ∧ a ∉ p :: l ∧ a ∉ m := fun a o e1 e2 e3 e4 => ⟨g.keep a o e1 e3 e4, fun z => by
    rcases List.mem_cons.mp z with q | q
    · rw [q, hp] at e1; cases e1
    · exact e2 q, g.out ⟨o, e1, e4⟩ e3⟩
  cases d with
  | exc c w =>
    obtain ⟨a, dx, x, e, h1, ⟨fs, h2, hl⟩, h3, h4⟩ := h2
    exact ⟨a, dx, x, e, h1, ⟨fs, g.keep dx _ h2 h3 (fun ps z => by cases z), hl⟩, g.out ⟨_, h2, fun ps z => by cases z⟩ h3, Br.mv k (fun n a e => g.at_ e) _ _ h4⟩
  | lam =>
    obtain ⟨a, e, h1, h2⟩ := h2
    exact ⟨a, e, h1, h2.trans g⟩
  | _ => exact Br.mv k (fun n a e => g.at_ e) _ _ h2⟩
theorem Grow.wr (g : Grow m1 H1 m H) (hp : H1 p = none) (o : HO) : Grow m1 H1 m (upd H p o) :=
  ⟨g.more, fun b u e n t => by rw [upd_ne (ne_of_none e hp)]; exact g.keep b u e n t, fun b e => by
    obtain ⟨x, h, n⟩ := g.there b e
    exact ⟨x, by rw [upd_ne fun q => e.ne (by rw [q]; exact hp)]; exact h, n⟩⟩
theorem Grow.adopt (g : Grow m1 H1 m H) (hp : H1 p = none) : Grow m1 H1 (m ++ [p]) H := by
  obtain ⟨t, e, f⟩ := g.more
  refine ⟨⟨t ++ [p], by rw [e, List.append_assoc], fun a ha => ?_⟩, g.keep, g.there⟩
  rcases List.mem_append.mp ha with q | q
  · exact f a q
  · rw [List.mem_singleton.mp q]; exact fun z => z.ne hp
/-- what was in the making is an object of the store now -/
theorem StOk.adopt (st : StOk (Γ.h (p :: l)) m S H) {ds : List D} {vs : List V} (hn : p ∉ l) (hp : H p = some (.lst vs)) (hb : (Γ.h (p :: l)).brl m H ds vs) : StOk (Γ.h l) (m ++ [p]) (S ++ [.lst ds]) H := by
  have n1 : p ∉ m := st.hidm p (List.mem_cons_self ..)
  have k : ∀ a o, H a = some o → a ∉ p :: l → a ∉ m → (∀ ps, o ≠ .tbl ps) → H a = some o ∧ a ∉ l ∧ a ∉ m ++ [p] := fun a o e1 e2 e3 _ => ⟨e1, fun z => e2 (List.mem_cons_of_mem _ z), fun z => by
    rcases List.mem_append.mp z with q | q
    · exact e3 q
    · exact e2 (by rw [List.mem_singleton.mp q]; exact List.mem_cons_self ..)⟩
  have t : ∀ (n : Nat) (a : Addr), m[n]? = some a → (m ++ [p])[n]? = some a := fun n a e => by
    rw [List.getElem?_append_left ((List.getElem?_eq_some_iff.mp e).1)]
    exact e
  refine ⟨by rw [List.length_append, List.length_append, st.len]; rfl, List.nodup_append.mpr ⟨st.nd, by simp, fun a ha b hb => ?_⟩, fun a h z => ?_, fun a h => st.hids a (List.mem_cons_of_mem _ h), fun n a x h1 h2 => ?_, st.tabs⟩
  · rw [List.mem_singleton.mp hb]
    intro e
    rw [e] at ha
    exact n1 ha
  · rcases List.mem_append.mp z with q | q
    · exact st.hidm a (List.mem_cons_of_mem _ h) q
    · rw [List.mem_singleton.mp q] at h
      exact hn h
  · by_cases q : n < m.length
    · rw [List.getElem?_append_left q] at h1
      rw [List.getElem?_append_left (by rw [← st.len]; exact q)] at h2
      have ho := st.obj n a x h1 h2
      cases x with
      | lst xs =>
        obtain ⟨us, e, hl⟩ := ho
        exact ⟨us, e, BrL.mv k t _ _ hl⟩
      | ins c fs => exact ho
    · rw [List.getElem?_append_right (by omega)] at h1
      rw [List.getElem?_append_right (by rw [← st.len]; omega), ← st.len] at h2
      cases e : n - m.length with
      | zero =>
        rw [e] at h1 h2
        simp at h1 h2
        subst h1 h2
        exact ⟨vs, hp, BrL.mv k t _ _ hb⟩
      | succ k =>
        rw [e] at h1
        simp at h1
end
/-! ### slots cleared -/
theorem clr_len : ∀ (l : List Nat) (ρ : Env), (clr l ρ).length = ρ.length
  | [], _ => rfl
  | i :: l, ρ => by rw [clr, List.length_set, clr_len l ρ]
theorem clr_out : ∀ {l : List Nat} {ρ : Env} {j : Nat}, j ∉ l → (clr l ρ)[j]? = ρ[j]?
  | [], _, _, _ => rfl
  | i :: l, ρ, j, h => by
    rw [clr, List.getElem?_set_ne fun e => h (by rw [e]; exact List.mem_cons_self ..)]
    exact clr_out fun z => h (List.mem_cons_of_mem _ z)
theorem clr_some : ∀ {l : List Nat} {ρ : Env} {j : Nat} {d : D}, (clr l ρ)[j]? = some (some d) → ρ[j]? = some (some d) ∧ j ∉ l
  | [], _, _, _, h => ⟨h, by simp⟩
  | i :: l, ρ, j, d, h => by
    rw [clr] at h
    by_cases hi : i = j
    · subst hi
      by_cases q : i < (clr l ρ).length
      · rw [List.getElem?_set_self q] at h; cases h
      · rw [List.getElem?_eq_none (by simpa using q)] at h; cases h
    · rw [List.getElem?_set_ne hi] at h
      obtain ⟨h1, h2⟩ := clr_some h
      exact ⟨h1, fun z => by
        rcases List.mem_cons.mp z with q | q
        · exact hi q.symm
        · exact h2 q⟩
def Agree (J : Nat → Prop) (a b : Env) : Prop := a.length = b.length ∧ ∀ j, ¬ J j → a[j]? = b[j]?
theorem Agree.set {J : Nat → Prop} {a b : Env} (h : Agree J a b) (i : Nat) (x : Option D) : Agree (fun j => J j ∧ j ≠ i) (a.set i x) (b.set i x) := ⟨by rw [List.length_set, List.length_set]; exact h.1, fun j hj => by
  by_cases e : i = j
  · subst e
    by_cases q : i < a.length
    · rw [List.getElem?_set_self q, List.getElem?_set_self (by rw [← h.1]; exact q)]
    · rw [List.getElem?_eq_none (by simpa using q), List.getElem?_eq_none (by rw [List.length_set, ← h.1]; simpa using q)]
  · rw [List.getElem?_set_ne e, List.getElem?_set_ne e]
    exact h.2 j fun z => hj ⟨z, fun z' => e z'.symm⟩⟩
theorem setAll_agree : ∀ {is : List Nat} {ds : List D} {a b r : Env} {J : Nat → Prop}, Agree J a b → setAll is ds a = some r → ∃ r', setAll is ds b = some r' ∧ Agree (fun j => J j ∧ j ∉ is) r r'
  | [], [], a, b, r, J, h, e => by
    cases e
    exact ⟨b, rfl, h.1, fun j hj => h.2 j fun z => hj ⟨z, by simp⟩⟩
  | i :: is, d :: ds, a, b, r, J, h, e => by
    obtain ⟨r', e1, e2⟩ := setAll_agree (h.set i (some d)) (show setAll is ds (a.set i (some d)) = some r from e)
    exact ⟨r', e1, e2.1, fun j hj => e2.2 j fun z => hj ⟨z.1.1, fun q => by
      rcases List.mem_cons.mp q with q | q
      · exact z.1.2 q
      · exact z.2 q⟩⟩
  | [], d :: ds, _, _, _, _, _, e => by cases e
  | i :: is, [], _, _, _, _, _, e => by cases e
theorem Agree.eq {J : Nat → Prop} {a b : Env} (h : Agree J a b) (n : ∀ j, ¬ J j) : a = b := List.ext_getElem? fun j => h.2 j (n j)
theorem setTg_clr {t : Tg} {d : D} {ρ ρ' : Env} (e : setTg t d ρ = some ρ') : setTg t d (clr t.slots ρ) = some ρ' := by
  have ag : Agree (· ∈ t.slots) ρ (clr t.slots ρ) := ⟨(clr_len _ _).symm, fun j hj => (clr_out hj).symm⟩
  cases t with
  | nm i =>
    cases e
    have := (ag.set i (some d)).eq fun j h => h.2 (List.mem_singleton.mp h.1)
    exact congrArg some this.symm
  | tp is =>
    cases d with
    | tup ds =>
      obtain ⟨r', e1, e2⟩ := setAll_agree ag (show setAll is ds ρ = some ρ' from e)
      rw [show ρ' = r' from e2.eq fun j h => h.2 h.1]
      exact e1
    | _ => cases e
  | tp2 i is =>
    obtain ⟨d1, ds, rfl, e⟩ := setTg2 e
    obtain ⟨r', e1, e2⟩ := setAll_agree (ag.set i (some d1)) e
    rw [show ρ' = r' from e2.eq fun j h => by
      rcases List.mem_cons.mp h.1.1 with q | q
      · exact h.1.2 q
      · exact h.2 q]
    exact e1
theorem wipe_eq {σ σ2 : L2.St} {vs sl : List Nat} (h : Apart sl (wipe σ vs) σ2) (hs : ∀ j, j ∈ sl → j ∈ vs) : wipe σ2 vs = wipe σ vs := by
  have wl : ∀ (τ : L2.St), (wipe τ vs).length = τ.length := fun τ => wipe_length τ vs
  have ins : ∀ (τ : L2.St) {vs : List Nat} {j : Nat}, j ∈ vs → j < τ.length → (wipe τ vs)[j]? = some none := fun τ {vs j} => by
    induction vs with
    | nil => intro h; cases h
    | cons v vs ih =>
      intro h hl
      unfold wipe
      by_cases e : v = j
      · subst e
        exact List.getElem?_set_self (by rw [wipe_length]; exact hl)
      · rw [List.getElem?_set_ne e]
        exact ih ((List.mem_cons.mp h).resolve_left fun z => e z.symm) hl
  have len : σ2.length = σ.length := by rw [h.1, wl]
  refine List.ext_getElem? fun j => ?_
  by_cases hj : j ∈ vs
  · by_cases q : j < σ.length
    · rw [ins σ2 hj (by rw [len]; exact q), ins σ hj q]
    · rw [List.getElem?_eq_none (by rw [wl, len]; omega), List.getElem?_eq_none (by rw [wl]; omega)]
  · rw [wipe_out hj, wipe_out hj, h.2 j fun z => hj (hs j z), wipe_out hj]
/-! ### comprehensions -/
def W0 : WX := fun _ _ _ _ => False
def rQ (Γ : Cg) (W : WX) (f : Env → Sto → R Bool) : TT := fun σ H Q => ∃ m S ρ, StOk Γ m S H ∧ EnvOk Γ m H ρ σ ∧ Sat Γ (fun c d H' => W c d σ H') m H (f ρ S) (fun b _ _ H' => Q b H')
def exB (Γ : Cg) (f : Env → Sto → R Bool) : TT := fun σ H Q => ∃ l, rQ (Γ.h l) W0 f σ H Q
def exE (Γ : Cg) (f : Env → Sto → R D) : TE := fun σ H Q => ∃ l, rE (Γ.h l) W0 f σ H Q
section
variable {Γ : Cg} {X : Cx} {W : WX} {elt tg iter : Expr} {ifs : List Expr} {scope : Scope} {own : List (Str × Nat)} {pos : Pos} {fi : Env → Sto → R (List D)} {fc : Env → Sto → R Bool} {fe : Env → Sto → R D} {t : Tg}
def finL (mu : Bool) (xs : List D) (S : Sto) : R D := if mu then .ok (.ref S.length) (S ++ [.lst xs]) else .ok (.lst xs) S
def compE (mu : Bool) (t : Tg) (fi : Env → Sto → R (List D)) (fc : Env → Sto → R Bool) (fe : Env → Sto → R D) (ρ : Env) (S : Sto) : R D := (fi ρ S).bind fun ds S1 => if ds.length ≤ 16777216 then
  (compL t (fun ρ' S' => (fc ρ' S').nox) (fun ρ' S' => (fe ρ' S').nox) ρ ds S1).bind fun xs S2 => (if mu then .ok (.ref S2.length) (S2 ++ [.lst xs]) else .ok (.lst xs) S2) else .bad
theorem comp_ok (mu : Bool) (hsl : ∀ j, j ∈ t.slots ↔ j ∈ own.map (·.2)) {σ : L2.St} {H : Hp} {Q : VK} (h : rE Γ W (compE mu t fi fc fe) σ H Q) : tLc (rIt Γ W fi) (rG Γ t) (exB Γ fc) (exE Γ fe) (own.map (·.2)) σ H Q := by
  obtain ⟨m, S, ρ, st, en, h⟩ := h
  refine ⟨m, S, ρ, st, en, h.bind.imp fun ds m1 S1 H1 g1 st1 h1 J hJ D hD => ?_⟩
  by_cases hz : ds.length ≤ 16777216
  case neg =>
    rw [if_neg hz] at h1
    exact (show False from h1).elim
  rw [if_pos hz] at h1
  have en1 := en.grow g1
  obtain ⟨nD1, nD2⟩ := st1.notIn hD
  generalize hcc : (fun ρ' S' => (fc ρ' S').nox) = cond at h1
  generalize hee : (fun ρ' S' => (fe ρ' S').nox) = el at h1
  let Left : List Bh.D → R (List Bh.D) → Prop := fun acc r => Sat Γ (fun c d H' => W c d σ H') m1 H1 (r.bind fun xs S2 => finL mu (acc ++ xs) S2) (PV Γ Q)
  let Iv : Nat → Hp → Prop := fun i H => ∃ m S accd accv, Grow m1 H1 m H ∧ StOk (Γ.h (D :: Γ.hid)) m S H ∧ H D = some (.lst accv) ∧ (Γ.h (D :: Γ.hid)).brl m H accd accv ∧ accd.length ≤ i ∧ Left accd (compL t cond el ρ (ds.drop i) S)
  refine ⟨fun i n H => n = ds.length - i ∧ i ≤ ds.length ∧ Iv i H, ⟨ds.length, rfl, Nat.zero_le _, m1, S1, [], [], Grow.new hD, st1.hide hD lst_nt, upd_same, by simp [Cg.brl, BrL], Nat.le_refl _, h1⟩, ?_⟩
  rintro i n H2 ⟨rfl, hi2, m2, S2, accd, accv, g2, st2, hDv, hb, hl, left⟩
  have nDm : D ∉ m2 := st2.hidm D (List.mem_cons_self ..)
  have wk := hJ (D :: Γ.hid) (fun a ha => (List.mem_cons.mp ha).elim (fun e => .inr (by rw [e]; exact hD)) .inl) i m2 S2 H2 g2.toX st2
  by_cases hlt : i < ds.length
  case neg =>
    left
    have e : i = ds.length := by omega
    subst e
    refine ⟨wk.2 rfl, ?_⟩
    rw [List.drop_length] at left
    have left : Sat Γ (fun c d H' => W c d σ H') m1 H1 (finL mu (accd ++ []) S2) (PV Γ Q) := left
    rw [List.append_nil] at left
    cases mu with
    | true =>
      have left : ∀ m' H', Grow m1 H1 m' H' → StOk Γ m' (S2 ++ [.lst accd]) H' → ∀ v, Γ.br m' H' (.ref S2.length) v → Q v H' := left
      refine left (m2 ++ [D]) H2 (g2.adopt hD) (st2.adopt nD2 hDv hb) _ ?_
      simp only [Cg.br, Br]
      exact ⟨D, by rw [← st2.len]; simp, rfl⟩
    | false =>
      have left : ∀ m' H', Grow m1 H1 m' H' → StOk Γ m' S2 H' → ∀ v, Γ.br m' H' (.lst accd) v → Q v H' := left
      exact left m2 H2 g2 st2.show _ (Br.newLst hDv nD2 nDm (BrL.move (fun a o e n => ⟨e, fun z => n (List.mem_cons_of_mem _ z)⟩) _ _ hb))
  right
  obtain ⟨d, hd⟩ : ∃ d, ds[i]? = some d := ⟨ds[i], by simp [hlt]⟩
  obtain ⟨go, yl⟩ := wk.1 d hd
  refine ⟨go, Iv (i + 1), fun H' n' => ⟨ds.length - (i + 1), by omega, rfl, by omega, n'⟩, fun x H3 y => ?_⟩
  obtain ⟨g3, hk3, st3, bx⟩ := yl x H3 y
  have hD3 : H3 D = some (.lst accv) := (hk3 D (List.mem_cons_self ..)).trans hDv
  have ed : ds.drop i = d :: ds.drop (i + 1) := by
    rw [List.drop_eq_getElem_cons hlt]
    congr 1
    have := List.getElem?_eq_getElem hlt
    rw [hd] at this
    exact (Option.some.inj this).symm
  rw [ed] at left
  cases e : setTg t d ρ with
  | none =>
    have left : Sat Γ (fun c d H' => W c d σ H') m1 H1 ((match setTg t d ρ with
      | none => (R.bad : R (List Bh.D))
      | some ρ' => (cond ρ' S2).bind fun b S1 => match b with
        | true => (el ρ' S1).bind fun x S2 => (compL t cond el ρ (ds.drop (i + 1)) S2).bind fun xs S3 => .ok (x :: xs) S3
        | false => compL t cond el ρ (ds.drop (i + 1)) S1).bind fun xs S2 => finL mu (accd ++ xs) S2) (PV Γ Q) := left
    rw [e] at left
    exact (show False from left).elim
  | some ρ' =>
    have left : Sat Γ (fun c d H' => W c d σ H') m1 H1 ((match setTg t d ρ with
      | none => (R.bad : R (List Bh.D))
      | some ρ' => (cond ρ' S2).bind fun b S1 => match b with
        | true => (el ρ' S1).bind fun x S2 => (compL t cond el ρ (ds.drop (i + 1)) S2).bind fun xs S3 => .ok (x :: xs) S3
        | false => compL t cond el ρ (ds.drop (i + 1)) S1).bind fun xs S2 => finL mu (accd ++ xs) S2) (PV Γ Q) := left
    rw [e] at left
    have g13 := g2.trans g3
    have en3 : EnvOk (Γ.h (D :: Γ.hid)) m2 H3 (clr t.slots ρ) (wipe σ (own.map (·.2))) := by
      have z := EnvOk.since (Γ := Γ) (l := Γ.hid) en1 hD g13 nDm
      refine ⟨by rw [clr_len, wipe_length]; exact z.len, fun j w ew => ?_⟩
      obtain ⟨e1, e2⟩ := clr_some ew
      obtain ⟨v, h1, h2⟩ := z.sl j w e1
      exact ⟨v, by rw [wipe_out fun q => e2 ((hsl j).mpr q)]; exact h1, h2⟩
    refine ⟨D :: Γ.hid, m2, S2, clr t.slots ρ, d, ρ', st3, en3, bx, setTg_clr e, fun σ2 en4 ap => ⟨wipe_eq ap fun j hj => (hsl j).mp hj, ?_⟩⟩
    refine ⟨D :: Γ.hid, m2, S2, ρ', st3, en4, ?_⟩
    cases ec : fc ρ' S2 with
    | ok b S5 =>
      have ec' : cond ρ' S2 = .ok b S5 := by rw [← hcc]; show (fc ρ' S2).nox = _; rw [ec]; rfl
      dsimp only at left
      rw [ec'] at left
      intro m5 H5 g5 st5
      have hD5 : H5 D = some (.lst accv) := g5.keep D _ hD3 nDm fun ps z => by cases z
      have g15 := g13.trans g5
      have hb5 : (Γ.h (D :: Γ.hid)).brl m5 H5 accd accv := BrL.grow (g3.trans g5) _ _ hb
      cases b with
      | false => exact iteF ⟨m5, S5, accd, accv, g15, st5, hD5, hb5, Nat.le_succ_of_le hl, left⟩
      | true =>
        refine iteT ⟨D :: Γ.hid, m5, S5, ρ', st5, en4.grow g5, ?_⟩
        cases ee : fe ρ' S5 with
        | ok x S6 =>
          have ee' : el ρ' S5 = .ok x S6 := by rw [← hee]; show (fe ρ' S5).nox = _; rw [ee]; rfl
          have left : Sat Γ (fun c d H' => W c d σ H') m1 H1 (((el ρ' S5).bind fun x S2 => (compL t cond el ρ (ds.drop (i + 1)) S2).bind fun xs S3 => .ok (x :: xs) S3).bind fun xs S2 => finL mu (accd ++ xs) S2) (PV Γ Q) := left
          rw [ee'] at left
          intro m6 H6 g6 st6 v hv
          have nD5 : D ∉ m5 := st5.hidm D (List.mem_cons_self ..)
          have hD6 : H6 D = some (.lst accv) := g6.keep D _ hD5 nD5 fun ps z => by cases z
          have hb6 := BrL.grow g6 _ _ hb5
          refine ⟨accv, hD6, by rw [sizeLine_eq, ← BrL.length hb]; omega, m6, S6, accd ++ [x], accv ++ [v], (g15.trans g6).wr hD _, st6.wrote (List.mem_cons_self ..) hD6, upd_same, ?_, by rw [List.length_append]; exact Nat.succ_le_succ hl, ?_⟩
          · exact BrL.move (keepHid (List.mem_cons_self ..)) _ _ (hb6.app (.one hv))
          · show Sat Γ (fun c d H' => W c d σ H') m1 H1 ((compL t cond el ρ (ds.drop (i + 1)) S6).bind fun xs S2 => finL mu ((accd ++ [x]) ++ xs) S2) (PV Γ Q)
            cases er : compL t cond el ρ (ds.drop (i + 1)) S6 with
            | ok xs S7 =>
              simp only [R.bind_ok, er] at left ⊢
              rw [List.append_assoc]
              exact left
            | exn c w S7 => simp only [R.bind_ok, R.bind_exn, er] at left ⊢; exact left
            | bad => simp only [R.bind_ok, R.bind_bad, er] at left ⊢; exact left
        | exn c w S6 =>
          have ee' : el ρ' S5 = .bad := by rw [← hee]; show (fe ρ' S5).nox = _; rw [ee]; rfl
          have left : Sat Γ (fun c d H' => W c d σ H') m1 H1 (((el ρ' S5).bind fun x S2 => (compL t cond el ρ (ds.drop (i + 1)) S2).bind fun xs S3 => .ok (x :: xs) S3).bind fun xs S2 => finL mu (accd ++ xs) S2) (PV Γ Q) := left
          rw [ee'] at left
          exact (show False from left).elim
        | bad =>
          have ee' : el ρ' S5 = .bad := by rw [← hee]; show (fe ρ' S5).nox = _; rw [ee]; rfl
          have left : Sat Γ (fun c d H' => W c d σ H') m1 H1 (((el ρ' S5).bind fun x S2 => (compL t cond el ρ (ds.drop (i + 1)) S2).bind fun xs S3 => .ok (x :: xs) S3).bind fun xs S2 => finL mu (accd ++ xs) S2) (PV Γ Q) := left
          rw [ee'] at left
          exact (show False from left).elim
    | exn c w S5 =>
      have ec' : cond ρ' S2 = .bad := by rw [← hcc]; show (fc ρ' S2).nox = _; rw [ec]; rfl
      dsimp only at left
      rw [ec'] at left
      exact (show False from left).elim
    | bad =>
      have ec' : cond ρ' S2 = .bad := by rw [← hcc]; show (fc ρ' S2).nox = _; rw [ec]; rfl
      dsimp only at left
      rw [ec'] at left
      exact (show False from left).elim
theorem pe_comp (mu : Bool) (hc : X.calm = true) (hN : X.N.Nodup) (hi : PI X tg iter (rIt Γ W fi)) (ok : BlkOk X.N X.env.scope scope own) (hsl : ∀ j, j ∈ t.slots ↔ j ∈ own.map (·.2))
    (hg : ∀ (s : Shared) (H : Hp) (C : Addr) (cl : List (Str × Addr)) (fp : List Addr), PG (X.blk s H scope (compEnvC scope cl C X.env) fp) tg (rG Γ t)) (ht : ∀ (s : Shared) (H : Hp) (C : Addr) (cl : List (Str × Addr)) (fp : List Addr), PTs (X.blk s H scope (compEnvC scope cl C X.env) fp) ifs (exB Γ fc))
    (he : ∀ (s : Shared) (H : Hp) (C : Addr) (cl : List (Str × Addr)) (fp : List Addr), PE (X.blk s H scope (compEnvC scope cl C X.env) fp) elt (exE Γ fe)) (hs : ∀ x, foldedSetIterable iter X.env x = pure x) :
    PE X (.ListComp elt [⟨tg, iter, ifs, 0⟩] scope pos) (rE Γ W (compE mu t fi fc fe)) := PE.imp (pe_lc hc hN hi ok hg ht he hs) fun σ H Q h => comp_ok mu hsl h
end
end Bh

set_option Elab.async false
set_option linter.all false
set_option maxRecDepth 10000
/-! Bh: comprehensions with two fors. -/
namespace Bh
open PySem PySem.Spec L2 PyProof.Rows
section
variable {Γ : Cg} {L m m1 : List Addr} {H H1 : Hp} {ρ ρ' : Env} {σ : L2.St} {p : Addr}
theorem Grow.wrT (g : Grow m1 H1 m H) (hp : ¬ NT H1 p) (o : HO) : Grow m1 H1 m (upd H p o) :=
  ⟨g.more, fun b u e n t => by rw [upd_ne fun z => hp ⟨u, by rw [← z]; exact e, t⟩]; exact g.keep b u e n t, fun b e => by
    obtain ⟨x, h, n⟩ := g.there b e
    exact ⟨x, by rw [upd_ne fun z => hp (by rw [← z]; exact e)]; exact h, n⟩⟩
/-- what is in the making is written to -/
theorem EnvOk.wrote (en : EnvOk (Γ.h L) m H ρ σ) (hp : p ∈ L) {vs : List V} (hv : H p = some (.lst vs)) (w : HO) (nl : ∀ i : Nat, ρ[i]? = some (some D.lam) → ¬ NT Γ.H0 p) : EnvOk (Γ.h L) m (upd H p w) ρ σ := ⟨en.len, fun i d e => by
  obtain ⟨v, h1, h2⟩ := en.sl i d e
  refine ⟨v, h1, ?_⟩
  cases d with
  | exc c x =>
    obtain ⟨a, dx, y, e, h1, ⟨fs, h2, hl⟩, h3, h4⟩ := h2
    refine ⟨a, dx, y, e, h1, ⟨fs, ?_, hl⟩, h3, Br.move (keepHid hp) _ _ h4⟩
    rw [upd_ne fun z => ?_]
    · exact h2
    · rw [z, hv] at h2; cases h2
  | lam =>
    obtain ⟨a, e', h1, h2⟩ := h2
    exact ⟨a, e', h1, h2.wrT (nl i e) w⟩
  | _ => exact Br.move (keepHid hp) _ _ h2⟩
theorem setAll_from : ∀ {is : List Nat} {ds : List D} {ρ ρ' : Env} {j : Nat} {w : D}, setAll is ds ρ = some ρ' → ρ'[j]? = some (some w) → ρ[j]? = some (some w) ∨ w ∈ ds
  | [], [], ρ, ρ', j, w, e, h => by cases e; exact .inl h
  | i :: is, d :: ds, ρ, ρ', j, w, e, h => by
    rcases setAll_from (show setAll is ds (ρ.set i (some d)) = some ρ' from e) h with q | q
    · by_cases z : i = j
      · subst z
        by_cases y : i < ρ.length
        · rw [List.getElem?_set_self y] at q
          cases q
          exact .inr (List.mem_cons_self ..)
        · rw [List.getElem?_eq_none (by simpa using y)] at q
          cases q
      · rw [List.getElem?_set_ne z] at q
        exact .inl q
    · exact .inr (List.mem_cons_of_mem _ q)
  | [], d :: ds, _, _, _, _, e, _ => by cases e
  | i :: is, [], _, _, _, _, e, _ => by cases e
theorem brl_nolam {K : PySem.W.Frag} {hid : List Addr} : ∀ {l : List D} {vs : List V}, BrL K hid m H l vs → D.lam ∉ l
  | [], _, _, h => by cases h
  | d :: l, vs, h, z => by
    simp only [BrL] at h
    obtain ⟨v, r, e, h1, h2⟩ := h
    rcases List.mem_cons.mp z with q | q
    · subst q
      simp only [Br] at h1
    · exact brl_nolam h2 q
/-- a target takes no def handed on -/
theorem setTg_lam {t : Tg} {d : D} {v : V} {i : Nat} (hb : Γ.br m H d v) (e : setTg t d ρ = some ρ') (h : ρ'[i]? = some (some .lam)) : ρ[i]? = some (some .lam) := by
  cases t with
  | nm j =>
    cases e
    by_cases z : j = i
    · subst z
      by_cases y : j < ρ.length
      · rw [List.getElem?_set_self y] at h
        cases h
        simp only [Cg.br, Br] at hb
      · rw [List.getElem?_eq_none (by simpa using y)] at h
        cases h
    · rw [List.getElem?_set_ne z] at h
      exact h
  | tp is =>
    cases d with
    | tup ds =>
      simp only [Cg.br, Br] at hb
      obtain ⟨a, vs, _, _, hl⟩ := hb
      rcases setAll_from (show setAll is ds ρ = some ρ' from e) h with q | q
      · exact q
      · exact absurd q (brl_nolam hl)
    | _ => cases e
  | tp2 j is =>
    obtain ⟨d1, ds, rfl, e⟩ := setTg2 e
    simp only [Cg.br, Br, BrL] at hb
    obtain ⟨a, vs, _, _, v1, r, _, h1, v2, r2, _, ⟨a2, vs2, _, _, hl⟩, _⟩ := hb
    rcases setAll_from e h with q | q
    · by_cases z : j = i
      · subst z
        by_cases y : j < ρ.length
        · rw [List.getElem?_set_self y] at q
          cases q
          simp only [Br] at h1
        · rw [List.getElem?_eq_none (by simpa using y)] at q
          cases q
      · rw [List.getElem?_set_ne z] at q
        exact q
    · exact absurd q (brl_nolam hl)
end
def exI (Γ : Cg) (f : Env → Sto → R (List D)) : TI := fun σ H R => ∃ l, rIt (Γ.h l) W0 f σ H R
section
variable {Γ : Cg} {X : Cx} {W : WX} {elt tg iter tg1 iter1 : Expr} {ifs ifs1 : List Expr} {scope : Scope} {own : List (Str × Nat)} {pos : Pos} {fi fi1 : Env → Sto → R (List D)} {fc fc1 : Env → Sto → R Bool} {fe : Env → Sto → R D} {t t1 : Tg}
def compE2 (mu : Bool) (t : Tg) (fi : Env → Sto → R (List D)) (fc : Env → Sto → R Bool) (fi1 : Env → Sto → R (List D)) (t1 : Tg) (fc1 : Env → Sto → R Bool) (fe : Env → Sto → R D) (ρ : Env) (S : Sto) : R D := (fi ρ S).bind fun ds S1 =>
  (compL2 t (fun ρ' S' => (fc ρ' S').nox) (fun ρ' S' => (fi1 ρ' S').nox) t1 (fun ρ' S' => (fc1 ρ' S').nox) (fun ρ' S' => (fe ρ' S').nox) (clr t1.slots ρ) 16777216 ds S1).bind fun xs S2 => (if mu then .ok (.ref S2.length) (S2 ++ [.lst xs]) else .ok (.lst xs) S2)
theorem nox_bad_of {α : Type} {r : R α} (h : ∀ a S, r ≠ .ok a S) : r.nox = .bad := by
  cases r with
  | ok a S => exact absurd rfl (h a S)
  | exn c w S => rfl
  | bad => rfl
theorem drop_at {α : Type} {l : List α} {i : Nat} {d : α} (hd : l[i]? = some d) : l.drop i = d :: l.drop (i + 1) := by
  obtain ⟨hlt, e⟩ := List.getElem?_eq_some_iff.mp hd
  rw [List.drop_eq_getElem_cons hlt, e]
theorem comp2_ok (mu : Bool) (hsl : ∀ j, j ∈ own.map (·.2) ↔ (j ∈ t.slots ∨ j ∈ t1.slots)) {σ : L2.St} {H : Hp} {Q : VK} (h : rE Γ W (compE2 mu t fi fc fi1 t1 fc1 fe) σ H Q) :
    tLc2 (rIt Γ W fi) (rG Γ t) (exB Γ fc) (exI Γ fi1) (rG Γ t1) (exB Γ fc1) (exE Γ fe) (own.map (·.2)) t1.slots σ H Q := by
  obtain ⟨m, S, ρ, st, en, h⟩ := h
  refine ⟨m, S, ρ, st, en, h.bind.imp fun ds m1 S1 H1 g1 st1 h1 J hJ D hD => ?_⟩
  have en1 := en.grow g1
  obtain ⟨nD1, nD2⟩ := st1.notIn hD
  have lam0 : ∀ i : Nat, ρ[i]? = some (some Bh.D.lam) → ¬ NT Γ.H0 D := fun i e z => by
    obtain ⟨v, _, a, _, _, gl⟩ := en1.sl i _ e
    exact (gl.there D z).ne hD
  generalize hρ0 : clr t1.slots ρ = ρ0 at h1
  have sub0 : ∀ {j : Nat} {w : Bh.D}, ρ0[j]? = some (some w) → ρ[j]? = some (some w) ∧ j ∉ t1.slots := fun {j w} e => clr_some (by rw [hρ0]; exact e)
  have len0 : ρ0.length = ρ.length := by rw [← hρ0, clr_len]
  generalize hcc : (fun ρ' S' => (fc ρ' S').nox) = cond at h1
  generalize hii : (fun ρ' S' => (fi1 ρ' S').nox) = itr at h1
  generalize hcc1 : (fun ρ' S' => (fc1 ρ' S').nox) = cond1 at h1
  generalize hee : (fun ρ' S' => (fe ρ' S').nox) = el at h1
  have hcc : ∀ ρ' S', cond ρ' S' = (fc ρ' S').nox := fun _ _ => by rw [← hcc]
  have hii : ∀ ρ' S', itr ρ' S' = (fi1 ρ' S').nox := fun _ _ => by rw [← hii]
  have hcc1 : ∀ ρ' S', cond1 ρ' S' = (fc1 ρ' S').nox := fun _ _ => by rw [← hcc1]
  have hee : ∀ ρ' S', el ρ' S' = (fe ρ' S').nox := fun _ _ => by rw [← hee]
  let Left : List Bh.D → R (List Bh.D) → Prop := fun acc r => Sat Γ (fun c d H' => W c d σ H') m1 H1 (r.bind fun xs S2 => finL mu (acc ++ xs) S2) (PV Γ Q)
  have leftCons : ∀ {acc : List Bh.D} {x : Bh.D} {r : R (List Bh.D)}, Left acc (r.bind fun xs S3 => .ok (x :: xs) S3) → Left (acc ++ [x]) r := fun {acc x r} h => by
    show Sat Γ (fun c d H' => W c d σ H') m1 H1 (r.bind fun xs S2 => finL mu ((acc ++ [x]) ++ xs) S2) (PV Γ Q)
    have h : Sat Γ (fun c d H' => W c d σ H') m1 H1 ((r.bind fun xs S3 => .ok (x :: xs) S3).bind fun xs S2 => finL mu (acc ++ xs) S2) (PV Γ Q) := h
    cases r with
    | ok xs S7 => simp only [R.bind_ok] at h ⊢; rw [List.append_assoc]; exact h
    | exn c w S7 => exact h
    | bad => exact h
  let Iv : Nat → Hp → Prop := fun i H => ∃ m S accd accv b, Grow m1 H1 m H ∧ StOk (Γ.h (D :: Γ.hid)) m S H ∧ H D = some (.lst accv) ∧ (Γ.h (D :: Γ.hid)).brl m H accd accv ∧ accd.length + b ≤ 16777216 ∧ Left accd (compL2 t cond itr t1 cond1 el ρ0 b (ds.drop i) S)
  refine ⟨fun i n H => n = ds.length - i ∧ i ≤ ds.length ∧ Iv i H, ⟨ds.length, rfl, Nat.zero_le _, m1, S1, [], [], 16777216, Grow.new hD, st1.hide hD lst_nt, upd_same, by simp [Cg.brl, BrL], by simp, h1⟩, ?_⟩
  rintro i n H2 ⟨rfl, hi2, m2, S2, accd, accv, bu, g2, st2, hDv, hb, hl, left⟩
  have nDm : D ∉ m2 := st2.hidm D (List.mem_cons_self ..)
  have wk := hJ (D :: Γ.hid) (fun a ha => (List.mem_cons.mp ha).elim (fun e => .inr (by rw [e]; exact hD)) .inl) i m2 S2 H2 g2.toX st2
  by_cases hlt : i < ds.length
  case neg =>
    left
    have e : i = ds.length := by omega
    subst e
    refine ⟨wk.2 rfl, ?_⟩
    rw [List.drop_length] at left
    have left : Sat Γ (fun c d H' => W c d σ H') m1 H1 (finL mu (accd ++ []) S2) (PV Γ Q) := by
      unfold compL2 at left
      exact left
    rw [List.append_nil] at left
    cases mu with
    | true =>
      have left : ∀ m' H', Grow m1 H1 m' H' → StOk Γ m' (S2 ++ [.lst accd]) H' → ∀ v, Γ.br m' H' (.ref S2.length) v → Q v H' := left
      refine left (m2 ++ [D]) H2 (g2.adopt hD) (st2.adopt nD2 hDv hb) _ ?_
      simp only [Cg.br, Br]
      exact ⟨D, by rw [← st2.len]; simp, rfl⟩
    | false =>
      have left : ∀ m' H', Grow m1 H1 m' H' → StOk Γ m' S2 H' → ∀ v, Γ.br m' H' (.lst accd) v → Q v H' := left
      exact left m2 H2 g2 st2.show _ (Br.newLst hDv nD2 nDm (BrL.move (fun a o e n => ⟨e, fun z => n (List.mem_cons_of_mem _ z)⟩) _ _ hb))
  right
  obtain ⟨d, hd⟩ : ∃ d, ds[i]? = some d := ⟨ds[i], by simp [hlt]⟩
  obtain ⟨go, yl⟩ := wk.1 d hd
  refine ⟨go, Iv (i + 1), fun H' n' => ⟨ds.length - (i + 1), by omega, rfl, by omega, n'⟩, fun x H3 y => ?_⟩
  obtain ⟨g3, hk3, st3, bx⟩ := yl x H3 y
  have hD3 : H3 D = some (.lst accv) := (hk3 D (List.mem_cons_self ..)).trans hDv
  rw [drop_at hd] at left
  have left : Left accd (match setTg t d ρ0 with
      | none => .bad
      | some ρ' => (cond ρ' S2).bind fun b S1 => match b with
        | true => (itr ρ' S1).bind fun es S2 => if es.length ≤ bu then (compL t1 cond1 el ρ' es S2).bind fun xs S3 => (compL2 t cond itr t1 cond1 el ρ0 (bu - es.length) (ds.drop (i + 1)) S3).bind fun ys S4 => .ok (xs ++ ys) S4 else .bad
        | false => compL2 t cond itr t1 cond1 el ρ0 bu (ds.drop (i + 1)) S1) := by
    unfold compL2 at left
    exact left
  cases e : setTg t d ρ0 with
  | none =>
    rw [e] at left
    exact (show False from left).elim
  | some ρ' =>
    rw [e] at left
    dsimp only at left
    have g13 := g2.trans g3
    have en3 : EnvOk (Γ.h (D :: Γ.hid)) m2 H3 (clr t.slots ρ0) (wipe σ (own.map (·.2))) := by
      have z := EnvOk.since (Γ := Γ) (l := Γ.hid) en1 hD g13 nDm
      refine ⟨by rw [clr_len, wipe_length, len0]; exact z.len, fun j w ew => ?_⟩
      obtain ⟨e1, e2⟩ := clr_some ew
      obtain ⟨e3, e4⟩ := sub0 e1
      obtain ⟨v, h1, h2⟩ := z.sl j w e3
      exact ⟨v, by rw [wipe_out fun q => ((hsl j).mp q).elim e2 e4]; exact h1, h2⟩
    refine ⟨D :: Γ.hid, m2, S2, clr t.slots ρ0, d, ρ', st3, en3, bx, setTg_clr e, fun σ2 en4 ap => ⟨wipe_eq ap fun j hj => (hsl j).mpr (.inl hj), ?_⟩⟩
    refine ⟨D :: Γ.hid, m2, S2, ρ', st3, en4, ?_⟩
    have lam1 : ∀ i : Nat, ρ'[i]? = some (some Bh.D.lam) → ¬ NT Γ.H0 D := fun i ei => lam0 i (sub0 (setTg_lam bx e ei)).1
    rw [hcc] at left
    cases ec : fc ρ' S2 with
    | exn c w S5 => rw [ec] at left; exact (show False from left).elim
    | bad => rw [ec] at left; exact (show False from left).elim
    | ok b S5 =>
    rw [ec] at left
    simp only [R.nox_ok, R.bind_ok] at left
    intro m5 H5 g5 st5
    have hD5 : H5 D = some (.lst accv) := g5.keep D _ hD3 nDm fun ps z => by cases z
    have g15 := g13.trans g5
    have hb5 : (Γ.h (D :: Γ.hid)).brl m5 H5 accd accv := BrL.grow (g3.trans g5) _ _ hb
    have nD5 : D ∉ m5 := st5.hidm D (List.mem_cons_self ..)
    cases b with
    | false => exact iteF ⟨m5, S5, accd, accv, bu, g15, st5, hD5, hb5, hl, left⟩
    | true =>
    refine iteT ⟨D :: Γ.hid, m5, S5, ρ', st5, en4.grow g5, ?_⟩
    dsimp only at left
    rw [hii] at left
    cases ei : fi1 ρ' S5 with
    | exn c w S6 => rw [ei] at left; exact (show False from left).elim
    | bad => rw [ei] at left; exact (show False from left).elim
    | ok es S6 =>
    rw [ei] at left
    simp only [R.nox_ok, R.bind_ok] at left
    by_cases hz : es.length ≤ bu
    case neg => rw [if_neg hz] at left; exact (show False from left).elim
    rw [if_pos hz] at left
    intro m6 H6 g6 st6 J1 hJ1
    have hD6 : H6 D = some (.lst accv) := g6.keep D _ hD5 nD5 fun ps z => by cases z
    have en6 := (en4.grow g5).grow g6
    let Iv1 : Nat → Hp → Prop := fun j H => ∃ m S ad av, Grow m1 H1 m H ∧ GrowX (D :: Γ.hid) m6 H6 m H ∧ StOk (Γ.h (D :: Γ.hid)) m S H ∧ EnvOk (Γ.h (D :: Γ.hid)) m H ρ' σ2 ∧ H D = some (.lst av) ∧ (Γ.h (D :: Γ.hid)).brl m H ad av ∧ ad.length ≤ accd.length + j ∧
      Left ad ((compL t1 cond1 el ρ' (es.drop j) S).bind fun xs S3 => (compL2 t cond itr t1 cond1 el ρ0 (bu - es.length) (ds.drop (i + 1)) S3).bind fun ys S4 => .ok (xs ++ ys) S4)
    refine ⟨fun j k H => k = es.length - j ∧ j ≤ es.length ∧ Iv1 j H, ⟨es.length, rfl, Nat.zero_le _, m6, S6, accd, accv, g15.trans g6, Grow.refl.toX, st6, en6, hD6, BrL.grow g6 _ _ hb5, Nat.le_refl _, left⟩, ?_⟩
    rintro j k H7 ⟨rfl, hj2, m7, S7, ad, av, g7, x7, st7, en7, hD7, hb7, hl7, left⟩
    have nD7 : D ∉ m7 := st7.hidm D (List.mem_cons_self ..)
    have wk1 := hJ1 (D :: Γ.hid) (fun a ha => .inl ha) j m7 S7 H7 x7 st7
    by_cases hlt1 : j < es.length
    case neg =>
      left
      have ej : j = es.length := by omega
      subst ej
      refine ⟨wk1.2 rfl, m7, S7, ad, av, bu - es.length, g7, st7, hD7, hb7, by omega, ?_⟩
      rw [List.drop_length] at left
      have left : Left ad ((compL2 t cond itr t1 cond1 el ρ0 (bu - es.length) (ds.drop (i + 1)) S7).bind fun ys S4 => .ok ([] ++ ys) S4) := by
        unfold compL at left
        exact left
      revert left
      cases compL2 t cond itr t1 cond1 el ρ0 (bu - es.length) (ds.drop (i + 1)) S7 <;> exact fun left => left
    right
    obtain ⟨d1, hd1⟩ : ∃ d1, es[j]? = some d1 := ⟨es[j], by simp [hlt1]⟩
    obtain ⟨go1, yl1⟩ := wk1.1 d1 hd1
    refine ⟨go1, Iv1 (j + 1), fun H' n' => ⟨es.length - (j + 1), by omega, rfl, by omega, n'⟩, fun x1 H8 y1 => ?_⟩
    obtain ⟨g8, hk8, st8, bx1⟩ := yl1 x1 H8 y1
    have hD8 : H8 D = some (.lst av) := (hk8 D (List.mem_cons_self ..)).trans hD7
    rw [drop_at hd1] at left
    have left : Left ad ((match setTg t1 d1 ρ' with
      | none => (.bad : R (List Bh.D))
      | some ρ2 => (cond1 ρ2 S7).bind fun b S1 => match b with
        | true => (el ρ2 S1).bind fun x S2 => (compL t1 cond1 el ρ' (es.drop (j + 1)) S2).bind fun xs S3 => .ok (x :: xs) S3
        | false => compL t1 cond1 el ρ' (es.drop (j + 1)) S1).bind fun xs S3 => (compL2 t cond itr t1 cond1 el ρ0 (bu - es.length) (ds.drop (i + 1)) S3).bind fun ys S4 => .ok (xs ++ ys) S4) := by
      unfold compL at left
      exact left
    cases e1 : setTg t1 d1 ρ' with
    | none => rw [e1] at left; exact (show False from left).elim
    | some ρ2 =>
    rw [e1] at left
    dsimp only at left
    have en8 : EnvOk (Γ.h (D :: Γ.hid)) m7 H8 (clr t1.slots ρ') (wipe σ2 t1.slots) := by
      have z := en7.grow g8
      refine ⟨by rw [clr_len, wipe_length]; exact z.len, fun j w ew => ?_⟩
      obtain ⟨q1, q2⟩ := clr_some ew
      obtain ⟨v, h1, h2⟩ := z.sl j w q1
      exact ⟨v, by rw [wipe_out q2]; exact h1, h2⟩
    refine ⟨D :: Γ.hid, m7, S7, clr t1.slots ρ', d1, ρ2, st8, en8, bx1, setTg_clr e1, fun σ3 en9 ap1 => ⟨wipe_eq ap1 fun j hj => hj, ?_⟩⟩
    refine ⟨D :: Γ.hid, m7, S7, ρ2, st8, en9, ?_⟩
    rw [hcc1] at left
    cases ec1 : fc1 ρ2 S7 with
    | exn c w S9 => rw [ec1] at left; exact (show False from left).elim
    | bad => rw [ec1] at left; exact (show False from left).elim
    | ok b1 S9 =>
    rw [ec1] at left
    simp only [R.nox_ok, R.bind_ok] at left
    intro m9 H9 g9 st9
    have hD9 : H9 D = some (.lst av) := g9.keep D _ hD8 nD7 fun ps z => by cases z
    have g79 := g8.trans g9
    have hb9 : (Γ.h (D :: Γ.hid)).brl m9 H9 ad av := BrL.grow g79 _ _ hb7
    have nD9 : D ∉ m9 := st9.hidm D (List.mem_cons_self ..)
    cases b1 with
    | false => exact iteF ⟨m9, S9, ad, av, g7.trans g79, x7.trans g79, st9, en7.grow g79, hD9, hb9, Nat.le_succ_of_le hl7, left⟩
    | true =>
    refine iteT ⟨D :: Γ.hid, m9, S9, ρ2, st9, en9.grow g9, ?_⟩
    dsimp only at left
    rw [hee] at left
    cases ee : fe ρ2 S9 with
    | exn c w S10 => rw [ee] at left; exact (show False from left).elim
    | bad => rw [ee] at left; exact (show False from left).elim
    | ok x S10 =>
    rw [ee] at left
    simp only [R.nox_ok, R.bind_ok] at left
    intro m10 H10 g10 st10 v hv
    have hD10 : H10 D = some (.lst av) := g10.keep D _ hD9 nD9 fun ps z => by cases z
    have hb10 := BrL.grow g10 _ _ hb9
    have g710 := g79.trans g10
    refine ⟨av, hD10, by rw [sizeLine_eq, ← BrL.length hb7]; omega, m10, S10, ad ++ [x], av ++ [v], (g7.trans g710).wr hD _, (x7.trans g710).wr (List.mem_cons_self ..) _, st10.wrote (List.mem_cons_self ..) hD10, (en7.grow g710).wrote (List.mem_cons_self ..) hD10 _ lam1, upd_same, ?_, by rw [List.length_append]; simp only [List.length_cons, List.length_nil]; omega, ?_⟩
    · exact BrL.move (keepHid (List.mem_cons_self ..)) _ _ (hb10.app (.one hv))
    · refine leftCons ?_
      revert left
      cases compL t1 cond1 el ρ' (es.drop (j + 1)) S10 with
      | exn c w S3 => exact fun left => left
      | bad => exact fun left => left
      | ok xs S3 =>
        simp only [R.bind_ok]
        cases compL2 t cond itr t1 cond1 el ρ0 (bu - es.length) (ds.drop (i + 1)) S3 <;> exact fun left => left
theorem pe_comp2 (mu : Bool) (hc : X.calm = true) (hN : X.N.Nodup) (hi : PI X tg iter (rIt Γ W fi)) (ok : BlkOk X.N X.env.scope scope own) (hsl : ∀ j, j ∈ own.map (·.2) ↔ (j ∈ t.slots ∨ j ∈ t1.slots))
    (hg : ∀ (s : Shared) (H : Hp) (C : Addr) (cl : List (Str × Addr)) (fp : List Addr), PG (X.blk s H scope (compEnvC scope cl C X.env) fp) tg (rG Γ t)) (ht : ∀ (s : Shared) (H : Hp) (C : Addr) (cl : List (Str × Addr)) (fp : List Addr), PTs (X.blk s H scope (compEnvC scope cl C X.env) fp) ifs (exB Γ fc))
    (hi1 : ∀ (s : Shared) (H : Hp) (C : Addr) (cl : List (Str × Addr)) (fp : List Addr), PI (X.blk s H scope (compEnvC scope cl C X.env) fp) tg1 iter1 (exI Γ fi1))
    (hg1 : ∀ (s : Shared) (H : Hp) (C : Addr) (cl : List (Str × Addr)) (fp : List Addr), PG (X.blk s H scope (compEnvC scope cl C X.env) fp) tg1 (rG Γ t1)) (ht1 : ∀ (s : Shared) (H : Hp) (C : Addr) (cl : List (Str × Addr)) (fp : List Addr), PTs (X.blk s H scope (compEnvC scope cl C X.env) fp) ifs1 (exB Γ fc1))
    (he : ∀ (s : Shared) (H : Hp) (C : Addr) (cl : List (Str × Addr)) (fp : List Addr), PE (X.blk s H scope (compEnvC scope cl C X.env) fp) elt (exE Γ fe)) (hs : ∀ x, foldedSetIterable iter X.env x = pure x) (hs1 : ∀ env x, foldedSetIterable iter1 env x = pure x) :
    PE X (.ListComp elt [⟨tg, iter, ifs, 0⟩, ⟨tg1, iter1, ifs1, 0⟩] scope pos) (rE Γ W (compE2 mu t fi fc fi1 t1 fc1 fe)) :=
  PE.imp (pe_lc2 hc hN hi ok (fun j hj => (hsl j).mpr (.inr hj)) hg ht hi1 hg1 ht1 he hs hs1) fun σ H Q h => comp2_ok mu hsl h
/-- (*a, ..) -/
theorem pe_tupS {a : Expr} {es : List Expr} {fa : Env → Sto → R D} {fs : Env → Sto → R (List D)} {k : Nat} {sp : Pos} {n : Nat} (hk : Γ.K = X.K) (hn : n ≤ 1000) (hl : ∀ ρ S l S', fs ρ S = .ok l S' → l.length = n) (ha : PE X a (rE Γ W fa)) (hr : PA X es (rA Γ W fs)) :
    PE X (.Tuple (.Starred a sp :: es) k pos) (rE Γ W fun ρ S => (fa ρ S).bind fun x S1 => tupSR x (fs ρ S1)) := by
  refine PE.imp (pe_tup (StX.pa_star ha hr)) fun σ H Q h => ?_
  obtain ⟨m, S, ρ, st, en, h⟩ := h
  refine ⟨m, S, ρ, st, en, h.bind.imp fun x m1 S1 H1 g st1 h1 v hv => ?_⟩
  cases x with
  | tup p =>
    obtain ⟨q, xs, rfl, hx, hb⟩ := Br.tup hv
    refine ⟨q, xs, rfl, .inl (by rw [← hk]; exact hx), m1, S1, ρ, st1, en.grow g, ?_⟩
    unfold tupSR at h1
    dsimp only at h1
    cases e : fs ρ S1 with
    | ok l S2 =>
      simp only [e, R.bind_ok] at h1
      by_cases hp : p.length ≤ 1000
      case neg => rw [if_neg hp] at h1; exact (show False from h1).elim
      rw [if_pos hp] at h1
      intro m2 H2 g2 st2 vs hvs
      have gv : Gives Γ m2 S2 H2 (.tup (p ++ l)) Q := fun m' H' w g' st' hw => h1 m' H' (g2.trans g') st' w hw
      refine ⟨?_, fun r hr => gv.tup st2 ((BrL.grow g2 _ _ hb).app hvs) hr⟩
      rw [List.length_append, ← BrL.length hb, ← BrL.length hvs, hl _ _ _ _ e, sizeLine_eq]
      omega
    | exn c w S2 => simp only [e, R.bind_exn] at h1; exact h1
    | bad => simp only [e, R.bind_bad] at h1; exact (show False from h1).elim
  | _ => exact (show False from h1).elim
end
end Bh

set_option Elab.async false
set_option linter.all false
set_option maxRecDepth 10000
namespace Bh
open PySem PySem.Spec L2 PyProof.Rows
/-! ### over a list of the store -/
theorem cellAt_some {i : Nat} {ρ : Env} {S : Sto} {r : Nat} {ds : List D} (h : cellAt i ρ S = some (r, ds)) : ρ[i]? = some (some (.ref r)) ∧ S[r]? = some (.lst ds) := by
  unfold cellAt at h
  split at h
  · rename_i r' e
    split at h
    · rename_i l e2
      cases h
      exact ⟨e, e2⟩
    · cases h
  · cases h
theorem walk_store {Γ : Cg} {K : PySem.W.Frag} {l' m : List Addr} {H : Hp} {a : Addr} {r : Nat} {all : List D} (ha : m[r]? = some a) : ∀ (i : Nat) (m' : List Addr) (S' : Sto) (H' : Hp), Grow m H m' H' → StOk (Γ.h l') m' S' H' → S'[r]? = some (.lst all) →
    (∀ d, all[i]? = some d → (Itl K a).go i H' ∧ ∀ x H2, (Itl K a).yld i H' x H2 → Grow m' H' m' H2 ∧ (∀ b ∈ l', H2 b = H' b) ∧ StOk (Γ.h l') m' S' H2 ∧ (Γ.h l').br m' H2 d x) ∧ (all.length = i → (Itl K a).stop i H') := fun i m' S' H' g st hg => by
  obtain ⟨vs, q1, q2⟩ := st.lst (g.at_ ha) hg
  have hS : SqL K H' a vs := .inl (.inl q1)
  refine ⟨fun d e => ?_, fun e => ⟨vs, hS, by rw [← BrL.length q2]; exact Nat.le_of_eq e⟩⟩
  obtain ⟨v, e1, e2⟩ := BrL.get q2 e
  refine ⟨⟨vs, v, hS, e1⟩, fun x H2 y => ?_⟩
  obtain ⟨eH, y⟩ := y
  subst eH
  have e3 := y _ hS
  rw [e1] at e3
  cases e3
  exact ⟨.refl, fun _ _ => rfl, st, e2⟩
section
variable {Γ : Cg} {X : Cx} {W : WX} {elt tg iter : Expr} {ifs : List Expr} {scope : Scope} {own : List (Str × Nat)} {pos : Pos} {fi : Env → Sto → R (List D)} {fc : Env → Sto → R Bool} {fe : Env → Sto → R D} {t : Tg}
noncomputable def compEc (mu : Bool) (t : Tg) (i : Nat) (fc : Env → Sto → R Bool) (fe : Env → Sto → R D) (ρ : Env) (S : Sto) : R D := match cellAt i ρ S with
  | some (r, ds) => if ds.length ≤ 16777216 then
    (compLg r ds t (fun ρ' S' => (fc ρ' S').nox) (fun ρ' S' => (fe ρ' S').nox) ρ ds S).bind fun xs S2 => (if mu then .ok (.ref S2.length) (S2 ++ [.lst xs]) else .ok (.lst xs) S2) else .bad
  | none => .bad
theorem compc_ok (hk : Γ.K = X.K) (mu : Bool) {sl : Nat} (hsl : ∀ j, j ∈ t.slots ↔ j ∈ own.map (·.2)) {σ : L2.St} {H1 : Hp} {Q : VK} (h : rE Γ W (compEc mu t sl fc fe) σ H1 Q) : tLc (iSeq X.K (tVar sl)) (rG Γ t) (exB Γ fc) (exE Γ fe) (own.map (·.2)) σ H1 Q := by
  obtain ⟨m1, S1, ρ, st1, en1, h⟩ := h
  have h1 : Sat Γ (fun c d H' => W c d σ H') m1 H1 (compEc mu t sl fc fe ρ S1) (PV Γ Q) := h
  unfold compEc at h1
  cases ec0 : cellAt sl ρ S1 with
  | none => rw [ec0] at h1; exact (show False from h1).elim
  | some rd =>
  obtain ⟨r, ds⟩ := rd
  rw [ec0] at h1
  dsimp only at h1
  obtain ⟨c1, c2⟩ := cellAt_some ec0
  obtain ⟨vv, es1, es2⟩ := en1.sl sl (.ref r) c1
  have es2' : ∃ a, m1[r]? = some a ∧ vv = .ref a := by simpa [BrE, Cg.br, Br] using es2
  obtain ⟨a, ha, rfl⟩ := es2'
  obtain ⟨vs0, q1, q2⟩ := st1.lst ha c2
  have hS0 : SqL X.K H1 a vs0 := .inl (.inl q1)
  refine ⟨_, es1, a, rfl, .inl ⟨⟨vs0, hS0⟩, fun D hD => ?_⟩⟩
  by_cases hz : ds.length ≤ 16777216
  case neg =>
    rw [if_neg hz] at h1
    exact (show False from h1).elim
  rw [if_pos hz] at h1
  obtain ⟨nD1, nD2⟩ := st1.notIn hD
  generalize hcc : (fun ρ' S' => (fc ρ' S').nox) = cond at h1
  generalize hee : (fun ρ' S' => (fe ρ' S').nox) = el at h1
  let Left : List Bh.D → R (List Bh.D) → Prop := fun acc r => Sat Γ (fun c d H' => W c d σ H') m1 H1 (r.bind fun xs S2 => finL mu (acc ++ xs) S2) (PV Γ Q)
  let Iv : Nat → Hp → Prop := fun i H => ∃ m S accd accv, Grow m1 H1 m H ∧ StOk (Γ.h (D :: Γ.hid)) m S H ∧ H D = some (.lst accv) ∧ (Γ.h (D :: Γ.hid)).brl m H accd accv ∧ accd.length ≤ i ∧ Left accd (compLg r ds t cond el ρ (ds.drop i) S)
  refine ⟨fun i n H => n = ds.length - i ∧ i ≤ ds.length ∧ Iv i H, ⟨ds.length, rfl, Nat.zero_le _, m1, S1, [], [], Grow.new hD, st1.hide hD lst_nt, upd_same, by simp [Cg.brl, BrL], Nat.le_refl _, h1⟩, ?_⟩
  rintro i n H2 ⟨rfl, hi2, m2, S2, accd, accv, g2, st2, hDv, hb, hl, left⟩
  have nDm : D ∉ m2 := st2.hidm D (List.mem_cons_self ..)
  by_cases hgd : S2[r]? = some (.lst ds)
  case neg =>
    have eb : compLg r ds t cond el ρ (ds.drop i) S2 = .bad := by
      cases ds.drop i with
      | nil => unfold compLg; rw [if_neg hgd]
      | cons _ _ => unfold compLg; rw [if_neg hgd]
    have left : Sat Γ (fun c d H' => W c d σ H') m1 H1 ((compLg r ds t cond el ρ (ds.drop i) S2).bind fun xs S2 => finL mu (accd ++ xs) S2) (PV Γ Q) := left
    rw [eb] at left
    exact (show False from left).elim
  have wk := walk_store (Γ := Γ) (K := X.K) (l' := D :: Γ.hid) ha i m2 S2 H2 g2 st2 hgd
  by_cases hlt : i < ds.length
  case neg =>
    left
    have e : i = ds.length := by omega
    subst e
    refine ⟨wk.2 rfl, ?_⟩
    rw [List.drop_length] at left
    have left : Sat Γ (fun c d H' => W c d σ H') m1 H1 ((compLg r ds t cond el ρ [] S2).bind fun xs S2 => finL mu (accd ++ xs) S2) (PV Γ Q) := left
    have en0 : compLg r ds t cond el ρ [] S2 = .ok [] S2 := by unfold compLg; rw [if_pos hgd]
    rw [en0] at left
    have left : Sat Γ (fun c d H' => W c d σ H') m1 H1 (finL mu (accd ++ []) S2) (PV Γ Q) := left
    rw [List.append_nil] at left
    cases mu with
    | true =>
      have left : ∀ m' H', Grow m1 H1 m' H' → StOk Γ m' (S2 ++ [.lst accd]) H' → ∀ v, Γ.br m' H' (.ref S2.length) v → Q v H' := left
      refine left (m2 ++ [D]) H2 (g2.adopt hD) (st2.adopt nD2 hDv hb) _ ?_
      simp only [Cg.br, Br]
      exact ⟨D, by rw [← st2.len]; simp, rfl⟩
    | false =>
      have left : ∀ m' H', Grow m1 H1 m' H' → StOk Γ m' S2 H' → ∀ v, Γ.br m' H' (.lst accd) v → Q v H' := left
      exact left m2 H2 g2 st2.show _ (Br.newLst hDv nD2 nDm (BrL.move (fun a o e n => ⟨e, fun z => n (List.mem_cons_of_mem _ z)⟩) _ _ hb))
  right
  obtain ⟨d, hd⟩ : ∃ d, ds[i]? = some d := ⟨ds[i], by simp [hlt]⟩
  obtain ⟨go, yl⟩ := wk.1 d hd
  refine ⟨go, Iv (i + 1), fun H' n' => ⟨ds.length - (i + 1), by omega, rfl, by omega, n'⟩, fun x H3 y => ?_⟩
  obtain ⟨g3, hk3, st3, bx⟩ := yl x H3 y
  have hD3 : H3 D = some (.lst accv) := (hk3 D (List.mem_cons_self ..)).trans hDv
  have ed : ds.drop i = d :: ds.drop (i + 1) := by
    rw [List.drop_eq_getElem_cons hlt]
    congr 1
    have := List.getElem?_eq_getElem hlt
    rw [hd] at this
    exact (Option.some.inj this).symm
  rw [ed] at left
  have ecs : compLg r ds t cond el ρ (d :: ds.drop (i + 1)) S2 = (match setTg t d ρ with
      | none => (R.bad : R (List Bh.D))
      | some ρ' => (cond ρ' S2).bind fun b S1 => match b with
        | true => (el ρ' S1).bind fun x S2 => (compLg r ds t cond el ρ (ds.drop (i + 1)) S2).bind fun xs S3 => .ok (x :: xs) S3
        | false => compLg r ds t cond el ρ (ds.drop (i + 1)) S1) := by
    conv => lhs; unfold compLg
    exact if_pos hgd
  have left : Sat Γ (fun c d H' => W c d σ H') m1 H1 ((compLg r ds t cond el ρ (d :: ds.drop (i + 1)) S2).bind fun xs S2 => finL mu (accd ++ xs) S2) (PV Γ Q) := left
  rw [ecs] at left
  cases e : setTg t d ρ with
  | none =>
    have left : Sat Γ (fun c d H' => W c d σ H') m1 H1 ((match setTg t d ρ with
      | none => (R.bad : R (List Bh.D))
      | some ρ' => (cond ρ' S2).bind fun b S1 => match b with
        | true => (el ρ' S1).bind fun x S2 => (compLg r ds t cond el ρ (ds.drop (i + 1)) S2).bind fun xs S3 => .ok (x :: xs) S3
        | false => compLg r ds t cond el ρ (ds.drop (i + 1)) S1).bind fun xs S2 => finL mu (accd ++ xs) S2) (PV Γ Q) := left
    rw [e] at left
    exact (show False from left).elim
  | some ρ' =>
    have left : Sat Γ (fun c d H' => W c d σ H') m1 H1 ((match setTg t d ρ with
      | none => (R.bad : R (List Bh.D))
      | some ρ' => (cond ρ' S2).bind fun b S1 => match b with
        | true => (el ρ' S1).bind fun x S2 => (compLg r ds t cond el ρ (ds.drop (i + 1)) S2).bind fun xs S3 => .ok (x :: xs) S3
        | false => compLg r ds t cond el ρ (ds.drop (i + 1)) S1).bind fun xs S2 => finL mu (accd ++ xs) S2) (PV Γ Q) := left
    rw [e] at left
    have g13 := g2.trans g3
    have en3 : EnvOk (Γ.h (D :: Γ.hid)) m2 H3 (clr t.slots ρ) (wipe σ (own.map (·.2))) := by
      have z := EnvOk.since (Γ := Γ) (l := Γ.hid) en1 hD g13 nDm
      refine ⟨by rw [clr_len, wipe_length]; exact z.len, fun j w ew => ?_⟩
      obtain ⟨e1, e2⟩ := clr_some ew
      obtain ⟨v, h1, h2⟩ := z.sl j w e1
      exact ⟨v, by rw [wipe_out fun q => e2 ((hsl j).mpr q)]; exact h1, h2⟩
    refine ⟨D :: Γ.hid, m2, S2, clr t.slots ρ, d, ρ', st3, en3, bx, setTg_clr e, fun σ2 en4 ap => ⟨wipe_eq ap fun j hj => (hsl j).mp hj, ?_⟩⟩
    refine ⟨D :: Γ.hid, m2, S2, ρ', st3, en4, ?_⟩
    cases ec : fc ρ' S2 with
    | ok b S5 =>
      have ec' : cond ρ' S2 = .ok b S5 := by rw [← hcc]; show (fc ρ' S2).nox = _; rw [ec]; rfl
      dsimp only at left
      rw [ec'] at left
      intro m5 H5 g5 st5
      have hD5 : H5 D = some (.lst accv) := g5.keep D _ hD3 nDm fun ps z => by cases z
      have g15 := g13.trans g5
      have hb5 : (Γ.h (D :: Γ.hid)).brl m5 H5 accd accv := BrL.grow (g3.trans g5) _ _ hb
      cases b with
      | false => exact iteF ⟨m5, S5, accd, accv, g15, st5, hD5, hb5, Nat.le_succ_of_le hl, left⟩
      | true =>
        refine iteT ⟨D :: Γ.hid, m5, S5, ρ', st5, en4.grow g5, ?_⟩
        cases ee : fe ρ' S5 with
        | ok x S6 =>
          have ee' : el ρ' S5 = .ok x S6 := by rw [← hee]; show (fe ρ' S5).nox = _; rw [ee]; rfl
          have left : Sat Γ (fun c d H' => W c d σ H') m1 H1 (((el ρ' S5).bind fun x S2 => (compLg r ds t cond el ρ (ds.drop (i + 1)) S2).bind fun xs S3 => .ok (x :: xs) S3).bind fun xs S2 => finL mu (accd ++ xs) S2) (PV Γ Q) := left
          rw [ee'] at left
          intro m6 H6 g6 st6 v hv
          have nD5 : D ∉ m5 := st5.hidm D (List.mem_cons_self ..)
          have hD6 : H6 D = some (.lst accv) := g6.keep D _ hD5 nD5 fun ps z => by cases z
          have hb6 := BrL.grow g6 _ _ hb5
          refine ⟨accv, hD6, by rw [sizeLine_eq, ← BrL.length hb]; omega, m6, S6, accd ++ [x], accv ++ [v], (g15.trans g6).wr hD _, st6.wrote (List.mem_cons_self ..) hD6, upd_same, ?_, by rw [List.length_append]; exact Nat.succ_le_succ hl, ?_⟩
          · exact BrL.move (keepHid (List.mem_cons_self ..)) _ _ (hb6.app (.one hv))
          · show Sat Γ (fun c d H' => W c d σ H') m1 H1 ((compLg r ds t cond el ρ (ds.drop (i + 1)) S6).bind fun xs S2 => finL mu ((accd ++ [x]) ++ xs) S2) (PV Γ Q)
            cases er : compLg r ds t cond el ρ (ds.drop (i + 1)) S6 with
            | ok xs S7 =>
              simp only [R.bind_ok, er] at left ⊢
              rw [List.append_assoc]
              exact left
            | exn c w S7 => simp only [R.bind_ok, R.bind_exn, er] at left ⊢; exact left
            | bad => simp only [R.bind_ok, R.bind_bad, er] at left ⊢; exact left
        | exn c w S6 =>
          have ee' : el ρ' S5 = .bad := by rw [← hee]; show (fe ρ' S5).nox = _; rw [ee]; rfl
          have left : Sat Γ (fun c d H' => W c d σ H') m1 H1 (((el ρ' S5).bind fun x S2 => (compLg r ds t cond el ρ (ds.drop (i + 1)) S2).bind fun xs S3 => .ok (x :: xs) S3).bind fun xs S2 => finL mu (accd ++ xs) S2) (PV Γ Q) := left
          rw [ee'] at left
          exact (show False from left).elim
        | bad =>
          have ee' : el ρ' S5 = .bad := by rw [← hee]; show (fe ρ' S5).nox = _; rw [ee]; rfl
          have left : Sat Γ (fun c d H' => W c d σ H') m1 H1 (((el ρ' S5).bind fun x S2 => (compLg r ds t cond el ρ (ds.drop (i + 1)) S2).bind fun xs S3 => .ok (x :: xs) S3).bind fun xs S2 => finL mu (accd ++ xs) S2) (PV Γ Q) := left
          rw [ee'] at left
          exact (show False from left).elim
    | exn c w S5 =>
      have ec' : cond ρ' S2 = .bad := by rw [← hcc]; show (fc ρ' S2).nox = _; rw [ec]; rfl
      dsimp only at left
      rw [ec'] at left
      exact (show False from left).elim
    | bad =>
      have ec' : cond ρ' S2 = .bad := by rw [← hcc]; show (fc ρ' S2).nox = _; rw [ec]; rfl
      dsimp only at left
      rw [ec'] at left
      exact (show False from left).elim
theorem pe_compc {i : Nat} {x : Str} {p : Pos} (hk : Γ.K = X.K) (mu : Bool) (hc : X.calm = true) (hN : X.N.Nodup) (hi : X.N[i]? = some x) (hv : Vis X.env.scope x) (hd : (x == ("__debug__" : Str)) = false) (hcd : (x == ("__classdict__" : Str)) = false) (ok : BlkOk X.N X.env.scope scope own) (hsl : ∀ j, j ∈ t.slots ↔ j ∈ own.map (·.2))
    (hg : ∀ (s : Shared) (H : Hp) (C : Addr) (cl : List (Str × Addr)) (fp : List Addr), PG (X.blk s H scope (compEnvC scope cl C X.env) fp) tg (rG Γ t)) (ht : ∀ (s : Shared) (H : Hp) (C : Addr) (cl : List (Str × Addr)) (fp : List Addr), PTs (X.blk s H scope (compEnvC scope cl C X.env) fp) ifs (exB Γ fc))
    (he : ∀ (s : Shared) (H : Hp) (C : Addr) (cl : List (Str × Addr)) (fp : List Addr), PE (X.blk s H scope (compEnvC scope cl C X.env) fp) elt (exE Γ fe)) :
    PE X (.ListComp elt [⟨tg, .Name x p, ifs, 0⟩] scope pos) (rE Γ W (compEc mu t i fc fe)) := PE.imp (pe_lc hc hN (pi_seq (pe_var hi hv hd hcd)) ok hg ht he (fun _ => rfl)) fun σ H Q h => compc_ok hk mu hsl h
end
end Bh

set_option Elab.async false
set_option linter.all false
set_option maxRecDepth 10000
namespace Bh
open PySem PySem.Spec L2 PyProof.Rows
section
variable {Γ : Cg} {X : Cx} {W : WX} {pos p : Pos} {fa fb : Env → Sto → R D} {fs : Env → Sto → R (List D)} {a b : Expr} {es : List Expr} {x : Str}
/-! ### names, constants -/
theorem pe_con {e : Expr} {v : V} {d : D} (h : PE X e (tC v)) (hv : ∀ m H, Γ.br m H d v) : PE X e (rE Γ W fun _ S => .ok d S) := by
  refine PE.imp h fun σ H Q q => ?_
  obtain ⟨m, S, ρ, st, en, q⟩ := q
  exact q.ok st v (hv _ _)
theorem pe_slot {i : Nat} (hN : X.N[i]? = some x) (hv : Vis X.env.scope x) (hd : (x == ("__debug__" : Str)) = false) (hcd : (x == ("__classdict__" : Str)) = false) : PE X (.Name x pos) (rE Γ W fun ρ S => match ρ[i]? with
    | some (some (.exc _ _)) => .bad
    | some (some .lam) => .bad
    | some (some d) => .ok d S
    | _ => .bad) := by
  refine PE.imp (pe_var hN hv hd hcd) fun σ H Q h => ?_
  obtain ⟨m, S, ρ, st, en, h⟩ := h
  cases e : ρ[i]? with
  | none =>
    simp only [e] at h
    exact (show False from h).elim
  | some o =>
    simp only [e] at h
    cases o with
    | none => exact (show False from h).elim
    | some d =>
      obtain ⟨v, h1, h2⟩ := en.sl i d e
      refine ⟨v, h1, ?_⟩
      cases d with
      | exc c w => exact (show False from h).elim
      | lam => exact (show False from h).elim
      | _ => exact h.ok st v h2
/-! ### built-ins by name -/
theorem callB_nx (bf : Bf) (ds : List D) (S : Sto) (c : Nat) (w : D) (S' : Sto) : callB bf ds S ≠ .exn c w S' := by
  have ho : ∀ {α : Type} (o : Option α), (opt o S : R α) ≠ .exn c w S' := fun o => by cases o <;> intro z <;> cases z
  unfold callB
  split <;> first | exact ho _ | (intro z; cases z; done) | (split <;> first | exact ho _ | (intro z; cases z; done))
theorem rF_of {bf : Bf} {σ : L2.St} {H : Hp} {Q : VK} (h : rE Γ W (fun ρ S => (fs ρ S).bind fun xs S1 => callB bf xs S1) σ H Q) : rA Γ W fs σ H fun vs H1 => rF Γ bf vs H1 Q := by
  obtain ⟨m, S, ρ, st, en, h⟩ := h
  refine ⟨m, S, ρ, st, en, h.bind.imp fun xs m1 S1 H1 g st1 h1 vs hv => ?_⟩
  cases e : callB bf xs S1 with
  | ok d S2 =>
    rw [e] at h1
    exact ⟨m1, S1, xs, d, S2, st1, hv, e, fun m' H' v g' st' hv' => h1 m' H' g' st' v hv'⟩
  | exn c w S2 => exact (callB_nx _ _ _ _ _ _ e).elim
  | bad =>
    rw [e] at h1
    exact (show False from h1).elim
/-- where a built-in stands: among the built-ins, or a module's global -/
inductive Src (X : Cx) (x : Str) (v : Value) : Prop
  | boot (hm : X.mg x = none) (hv : bootBuiltins x = some v) (hn : x ≠ "__name__")
  | glob (hm : X.mg x = some v)
theorem Src.ld {u : Value} {E : Value → Shared → Prop} {pins : List (Addr × Obj)} {s : Shared} {σ : L2.St} {H : Hp} {Q : Value → Shared → Prop} (r : Src X x u) (I : Inv X pins σ H s) (hg : Gl X x) (hd : (x == ("__debug__" : Str)) = false) (h : Q u s) : wpAny (model X.prog X.w) X.A (eval (.Name x p) X.env) Q E s := by
  cases r with
  | boot hm hv hn => exact ld_blt I hg hm hv h hn hd
  | glob hm => exact ld_glob I hg hm h hd
theorem pe_bf (bf : Bf) (hb : ∀ t, bf ≠ .isI t) (hk : Γ.K = X.K) (hc : X.calm = true) (hgu : X.A.guards = some []) (hu : X.A.units + 80 < cLine) (hg : Gl X x) (sr : Src X x (bfV bf)) (hd : (x == ("__debug__" : Str)) = false) (ha : PA X (a :: es) (rA Γ W fs))
    (he : starEach (a :: es) X.env = (false, eval a X.env) :: starEach es X.env) (hpl : (backTo pos (starEach es X.env)).any (·.1) = false) : PE X (.Call (.Name x p) (a :: es) [] pos) (rE Γ W fun ρ S => (fs ρ S).bind fun xs S1 => callB bf xs S1) := by
  refine ⟨fun pins s σ H Q I h => wpAny_Call_Name_kw (sr.ld I hg hd ?_)⟩
  have go := ha.run pos pins s σ H _ I (rF_of h)
  have fin := fun (us : List Value) (s1 : Shared) (hq : AP X pins σ (fun vs H1 => rF Γ bf vs H1 Q) us s1) => (show wpAny (model X.prog X.w) X.A (call (bfV bf) us) (EP X pins σ Q) X.xe s1 from by
    obtain ⟨vs, H1, I1, r1, q1⟩ := hq
    exact callB_ok hk hc hgu hu bf hb pins s1 σ H1 vs us Q I1 r1 q1)
  cases bf with
  | isI t => exact absurd rfl (hb t)
  | int => exact PyProof.Rows.callWith_type1 (thn go fin) he hpl
  | str => exact PyProof.Rows.callWith_type1 (thn go fin) he hpl
  | tuple => exact PyProof.Rows.callWith_type1 (thn go fin) he hpl
  | list => exact PyProof.Rows.callWith_type1 (thn go fin) he hpl
  | listM => exact PyProof.Rows.callWith_type1 (thn go fin) he hpl
  | _ => exact PyProof.Rows.callWith_builtin1 (thn go fin) he hpl
/-! ### isinstance -/
theorem pe_isi {t : Ty} {y : Str} {p1 : Pos} (hk : Γ.K = X.K) (hg : Gl X x) (sr : Src X x (.builtin "isinstance")) (hd : (x == ("__debug__" : Str)) = false) (hgy : Gl X y) (sy : Src X y (.type (tyN t))) (hdy : (y == ("__debug__" : Str)) = false) (ha : PE X a (rE Γ W fa))
    (he : starEach [a, .Name y p1] X.env = (false, eval a X.env) :: starEach [.Name y p1] X.env) (hpl : (backTo pos (starEach [.Name y p1] X.env)).any (·.1) = false) :
    PE X (.Call (.Name x p) [a, .Name y p1] [] pos) (rE Γ W fun ρ S => (fa ρ S).bind fun d S1 => opt ((isTy d t).map .bl) S1) := by
  refine ⟨fun pins s σ H Q I h => wpAny_Call_Name_kw (sr.ld I hg hd ?_)⟩
  have hy : PE X (.Name y p1) (tC (.ty (tyN t))) := ⟨fun _ _ _ H _ I h => sy.ld I hgy hdy ⟨.ty (tyN t), H, I, rfl, h⟩⟩
  have pa := pa_cons ha (pa_cons hy pa_nil (by rfl)) he
  have q : (tCons (rE Γ W fa) (tCons (tC (.ty (tyN t))) tNil)) σ H fun vs H1 => rIsi X.K vs H1 Q := by
    refine rE_two h fun d v m1 S1 ρ H1 st en hv h1 => ?_
    obtain ⟨e, e1, h2⟩ := h1.opt
    obtain ⟨b, e2, e3⟩ := Option.map_eq_some_iff.mp e1
    subst e3
    obtain ⟨T, ty, kb⟩ := tyX_of hv e2
    rw [hk] at ty
    exact ⟨v, .ty (tyN t), .type T, .type (tyN t), b, rfl, .ty _, ty, kit_ty kb, h2.ok st _ (by simp [Cg.br, Br])⟩
  exact PyProof.Rows.callWith_builtin1 (thn (pa.run pos pins s σ H _ I q) fun us s1 ⟨vs, H1, I1, r1, q1⟩ => call_isi pins s1 σ H1 vs us Q I1 r1 q1) he hpl
/-! ### append -/
theorem pe_app {apos : Pos} (hk : Γ.K = X.K) (ha : PE X a (rE Γ W fa)) (hb : PE X b (rE Γ W fb)) (hbase : attributeBase a "append" X.env (eval a X.env) = eval a X.env) (hst : starEach [b] X.env = [(false, eval b X.env)]) (hline : (apos.endLine == pos.line) = true) :
    PE X (.Call (.Attribute a "append" apos) [b] [] pos) (rE Γ W fun ρ S => (fa ρ S).bind fun x S1 => match x with
    | .ref k => (fb ρ S1).bind fun y S2 => match S2[k]? with
      | some (.lst l) => if l.length < 16777216 then .ok .non (S2.set k (.lst (l ++ [y]))) else .bad
      | _ => .bad
    | _ => .bad) := by
  have pb : PA X [b] (tCons (rE Γ W fb) tNil) := pa_cons hb pa_nil (by rw [hst]; rfl)
  refine PE.imp (pe_bm F.plainAttrs_list F.slot_list_append F.type_list_append (show MtR X "list.append" rAppend from mt_append) ha pb hbase (by rw [hst]; rfl) hline (by rw [hst]; rfl) (by rfl)) fun σ H Q h => ?_
  refine rE_two h fun x v m1 S1 ρ H1 st en hv h1 => ?_
  cases x with
  | ref n =>
    simp only [Cg.br, Br] at hv
    obtain ⟨q, hq, rfl⟩ := hv
    have hl : ∃ xs, SqL X.K H1 q xs := by
      have hlt : n < S1.length := by rw [← st.len]; exact (List.getElem?_eq_some_iff.mp hq).1
      have ho := st.obj n q S1[n] hq (by simp [hlt])
      cases e : S1[n] with
      | lst l =>
        rw [e] at ho
        obtain ⟨vs, h3, _⟩ := ho
        exact ⟨vs, .inl (.inl h3)⟩
      | ins c fs =>
        rw [e] at ho
        exact (show False from ho).elim
    refine ⟨.inl ⟨rfl, hl⟩, ?_⟩
    refine ⟨m1, S1, ρ, st, en, h1.bind.imp fun y m2 S2 H2 g st2 h2 u hu => ?_⟩
    split at h2
    · rename_i l e
      split at h2
      · rename_i hz
        obtain ⟨vs, h3, h4⟩ := st2.lst (g.at_ hq) e
        refine ⟨q, vs, u, rfl, rfl, h3, by rw [sizeLine_eq, ← BrL.length h4]; exact hz, ?_⟩
        have hm : q ∈ m2 := List.mem_of_getElem? (g.at_ hq)
        exact h2 m2 _ (Grow.write hm lst_nt) (st2.write (g.at_ hq) e (h4.app (.one hu))) _ (by simp [Cg.br, Br])
      · exact (show False from h2).elim
    · exact (show False from h2).elim
  | _ => exact (show False from h1).elim
end
end Bh

set_option Elab.async false
set_option linter.all false
set_option maxRecDepth 10000
namespace Bh
open PySem PySem.Spec L2 HT PyProof.Rows
/-! ### t[::-1] -/
section
variable {prog : Program} {w : World} {A : Around} {E : Value → Shared → Prop} {s : Shared}
theorem back_pick (xs : Array Value) : ((List.range xs.size).filterMap fun (k : Nat) => xs[(((xs.size : Nat) : Int) - 1 + (k : Int) * (-1)).toNat]?).toArray = xs.toList.reverse.toArray := by
  have h := PySem.W.krv_pick xs
  unfold slicePick at h
  rw [PySem.W.krv_bounds] at h
  rw [← h]
  show _ = ((sliceRange ((xs.size : Int) - 1) (-1) (-1)).filterMap (xs[·]?)).toArray
  rw [PySem.W.krv_sliceRange, List.filterMap_map]
  congr 2
  funext k
  show xs[_]? = xs[_]?
  congr 1
  show ((xs.size : Int) - 1 + (k : Int) * (-1)).toNat = xs.size - 1 - k
  omega
theorem back_places (n : Nat) : Builtin.Slice.slicePlaces ((n : Int) - 1) (-1) (-1) = n := by
  unfold Builtin.Slice.slicePlaces
  rw [if_neg (by decide)]
  split
  · rw [show (- -1 : Int) = 1 by decide, Int.ediv_one]
    omega
  · omega
theorem getItem_back {t sl : Addr} {items : Array Value} {vk : Value} {Q : Value → Shared → Prop} (ht : IsTup s.heap t items) (hs : s.heap.IsSliceOf sl .none .none vk) (pk : IsPart vk (some (-1)))
    (h : Q (.ref s.heap.objs.size) { s with heap := s.heap.push { cls := .type "tuple", data := .seq items.toList.reverse.toArray } }) (hz : items.size ≤ sizeLine) : wpAny (model prog w) A (getItem (.ref t) (.ref sl)) Q E s := by
  have hk : sizeOk (.seq items.toList.reverse.toArray) := by
    show items.toList.reverse.toArray.size ≤ sizeLine
    simpa using hz
  obtain ⟨ob, ho, hcl, hda⟩ := id hs
  have hTy : s.TypeIs (.ref sl) "slice" := ⟨ob, ho, hcl⟩
  unfold getItem
  try with_reducible refine wpAny_holding ?_
  first | refine wpAny_bind (wpAny_pure ?_) | skip
  refine wpAny_bind (wpAny_sequenceKey ht.typeIs (by decide) (wpAny_bind (wpAny_callSpecial?_slot (name := Str.ofString "__getitem__") ht.typeIs PyProof.Rows.slot_tuple_getitem (wpAny_call_entry PyProof.Rows.slot_tuple_getitem ht.typeIs entry_tuple_getitem ?_ (args_tuple_getitem _ _)))))
  show wpAny _ _ (Builtin.Tuple.tupleItemsOf (.ref t) >>= _) _ _ s
  refine wpAny_bind (tupleItemsOf_ ht (wpAny_bind (wpAny_typeOf hTy ?_)))
  rw [if_pos (by decide)]
  have ap : ∀ {R : Int × Int × Nat → Shared → Prop}, R ((items.size : Int) - 1, -1, items.size) s → wpAny (model prog w) A.in1 (Builtin.Slice.sliceApplied (.ref sl) (pure (items.size : Int))) R E s := fun {R} q => by
    unfold Builtin.Slice.sliceApplied Builtin.Slice.sliceFields
    refine wpAny_bind (wpAny_bind (wpAny_field ho hda (x := .none) rfl (wpAny_bind (wpAny_field ho hda (x := .none) rfl (wpAny_bind (wpAny_field ho hda (x := vk) rfl (wpAny_pure ?_)))))))
    refine wpAny_bind (slicePart_ pk ?_)
    show wpAny _ _ (if ((-1 : Int) == 0) = true then _ else _) _ _ s
    rw [if_neg (by decide)]
    refine wpAny_bind (slicePart_none (wpAny_bind (slicePart_none (wpAny_bind (wpAny_pure ?_)))))
    show wpAny _ _ (pure (((items.size : Int) - 1), (-1 : Int), Builtin.Slice.slicePlaces ((items.size : Int) - 1) (-1) (-1))) _ _ s
    rw [back_places]
    exact wpAny_pure q
  refine wpAny_bind (ap ?_)
  have hno : ¬ ((((items.size : Int) - 1) == 0 && (-1 : Int) == 1 && items.size == items.size) = true) := by simp
  show wpAny _ _ (if (((items.size : Int) - 1) == 0 && (-1 : Int) == 1 && items.size == items.size) = true then _ else _) _ _ s
  rw [if_neg hno, back_pick]
  first
    | exact wpAny_bind (m := Builtin.Tuple.tupleExact _) (wpAny_newObj_type (wpAny_pure ⟨_, rfl, wpAny_pure h⟩) hk)
    | exact wpAny_bind (wpAny_bind (m := Builtin.Tuple.tupleExact _) (wpAny_newObj_type (wpAny_pure ⟨_, rfl, wpAny_pure h⟩) hk))
    | exact wpAny_bind (wpAny_bind (m := Builtin.Tuple.tupleExact _) (wpAny_newObj_type (wpAny_pure (wpAny_pure ⟨_, rfl, wpAny_pure h⟩)) hk))
end
section
variable {Γ : Cg} {X : Cx} {W : WX} {pos p1 p2 p3 : Pos} {fa : Env → Sto → R D} {e : Expr} {k : Nat}
theorem pe_backk (hk : Γ.K = X.K) (he : PE X e (rE Γ W fa)) : PE X (.Subscript e (.Slice none none (some (.UnaryOp .USub (.Constant (.int 1) k p1) p2)) p3) pos) (rE Γ W fun ρ S => (fa ρ S).bind fun x S1 => match x with
    | .tup l => .ok (.tup l.reverse) S1
    | .lst l => .ok (.lst l.reverse) S1
    | _ => .bad) := by
  refine ⟨fun pins s σ H Q I h => ?_⟩
  have hq : rE Γ W fa σ H fun x H1 => ∃ a xs, x = .ref a ∧ ((SqL X.K H1 a xs ∧ ∀ p, H1 p = none → Q (.ref p) (upd H1 p (.lst xs.reverse))) ∨ (SqT X.K H1 a xs ∧ ∀ p, H1 p = none → Q (.ref p) (upd H1 p (.tup xs.reverse)))) := by
    refine rE_two h fun x v m1 S1 ρ H1 st en hv h1 => ?_
    have gv : ∀ {d : D}, Sat Γ (fun c d H' => W c d σ H') m1 H1 (.ok d S1) (PV Γ Q) → Gives Γ m1 S1 H1 d Q := fun g m' H' v g' st' hv => g m' H' g' st' v hv
    cases x with
    | tup l =>
      obtain ⟨a, vs, rfl, hs, hl⟩ := Br.tup hv
      have hs' : SqT X.K H1 a vs := by rw [← hk]; exact hs
      exact ⟨a, vs, rfl, .inr ⟨hs', fun p hp => (gv h1).tup st (BrL.rev hl) hp⟩⟩
    | lst l =>
      obtain ⟨a, vs, rfl, hs, hl⟩ := Br.lst hv
      exact ⟨a, vs, rfl, .inl ⟨.inl (.inl hs), fun p hp => (gv h1).lst st (BrL.rev hl) hp⟩⟩
    | _ => exact (show False from h1).elim
  refine Subscript_ (thn (he.run pins s σ H _ I hq) fun v s1 ⟨x, H1, I1, r1, a, xs, ex, q⟩ => ?_)
  subst ex
  cases r1
  have hstep : PO X (some (.UnaryOp .USub (.Constant (.int 1) k p1) p2)) (tPart (tUn (rU fun i => .int (-i)) (tC (.int 1)))) := po_some (pe_un un_neg pe_int)
  refine wpAny_Slice (thn (po_none.run pins s1 σ H1 (fun o G => o = none ∧ G = H1) I1 ⟨rfl, rfl⟩) fun vl s2 ⟨l, H2, I2, pl, el, e2⟩ => ?_)
  subst el e2
  refine thn (po_none.run pins s2 σ H2 (fun o G => o = none ∧ G = H2) I2 ⟨rfl, rfl⟩) fun vu s3 ⟨u, H3, I3, pu, eu, e3⟩ => ?_
  subst eu e3
  refine thn (hstep.run pins s3 σ H3 (fun o G => o = some (-1) ∧ G = H3) I3 ⟨1, rfl, -1, rfl, rfl, rfl⟩) fun vk s4 ⟨o, H4, I4, ps, eo, e4⟩ => ?_
  subst eo e4
  have J : Inv X pins σ H4 { s4 with heap := s4.heap.push { cls := .type "slice", data := .fields #[vl, vu, vk] } } := I4.kept (t' := s4.toks) fun b ob z => Heap.get?_push_of_some _ z
  have nw := J.hok.fresh (Nat.le_refl _)
  show wpAny (model X.prog X.w) X.A (subscriptTail e (.Slice none none (some (.UnaryOp .USub (.Constant (.int 1) k p1) p2)) p3) (.ref a) (.ref s4.heap.objs.size)) _ _ _
  rcases q with ⟨hx, q⟩ | ⟨hx, q⟩
  · obtain ⟨its, r, ht, hz⟩ := J.list hx
    have hlen := r.length
    refine tail_any (ops := [.ref a, .ref s4.heap.objs.size]) ht.isList.typeIs (PySem.slot_list_getitem.lookup) ?_ (by with_unfolding_all rfl)
    refine wpAny_getItem_list_slice ht.isList (Heap.IsSliceOf.new _ vl vu vk) pl pu ps (by decide) ?_ (by rw [List.size_toArray]; omega)
    rw [PySem.W.krv_pick]
    exact ⟨.ref _, _, J.laid (t' := s4.toks) (o := .lst xs.reverse) (fun b ob z => Heap.get?_push_of_some _ z) (Nat.le_refl _) ⟨by rw [List.length_reverse]; exact hz, _, 0, r.reverse, Heap.get?_push_size _ rfl⟩, rfl, q _ nw⟩
  · obtain ⟨its, r, ht, hz⟩ := J.tuple hx
    have hlen := r.length
    cases pl
    cases pu
    refine tail_any (ops := [.ref a, .ref s4.heap.objs.size]) (show IsTup _ a its.toArray from ht).typeIs (PyProof.Rows.slot_tuple_getitem.lookup) ?_ (by with_unfolding_all rfl)
    refine getItem_back (show IsTup _ a its.toArray from ht) (Heap.IsSliceOf.new _ .none .none vk) ps ?_ (by rw [List.size_toArray]; omega)
    exact ⟨.ref _, _, J.laid (t' := s4.toks) (o := .tup xs.reverse) (fun b ob z => Heap.get?_push_of_some _ z) (Nat.le_refl _) ⟨by rw [List.length_reverse]; exact hz, _, r.reverse, ⟨_, Heap.get?_push_size _ rfl, rfl, _, rfl⟩⟩, rfl, q _ nw⟩
end
end Bh

set_option Elab.async false
set_option linter.all false
set_option maxRecDepth 10000
namespace Bh
open PySem PySem.Spec L2 PyProof.Rows
/-! ### the module -/
structure Fd where
  a : Addr
  name : Str
  params : Arguments
  body : List Stmt
  scope : Scope
  dV : Value
  kV : Value
  doc : Value
  pm : Value
  cdv : Value
  ct : Value
  oc : Value
  an : Option Addr
  od : Option Addr
  osl : Array (Option Value)
  N : List Str
  ps : List Str
abbrev Fd.fd (F : Fd) : FuncData := PySem.W.fnOf F.name F.name F.params F.body F.scope F.dV F.kV F.doc F.pm F.an F.cdv F.ct
structure Md where
  P : Program
  w : World
  K : PySem.W.Frag
  mg : Str → Option Value
  base : Heap
  T : List (Addr × Str)
  cls : Nat → Addr
  clv : Nat → Value
  prg : Prg
  wf : Nat
  fds : Nat → Fd
/-- how a def's parameters are bound: by place, or all of them by name -/
structure Bd (K : PySem.W.Frag) (fd : FuncData) (ps : List Str) : Prop where
  pos : Binds K fd ps []
  kw : ∀ (s : Shared) (ws : List Value), K.In s.heap → ws.length = ps.length → ws.length ≤ 2 → BindsTo s fd ⟨[], ps.zip ws⟩ (ps.zip ws)
structure FdOk (M : Md) (F : Fd) (d : Def) : Prop where
  lk : M.K.lookup F.a = some ⟨F.oc, F.od, .func F.fd, F.osl⟩
  cd : PySem.W.codeIn M.K F.cdv F.name = true
  keep : PySem.W.keepIn M.K (.ref F.a) = true
  mg : M.mg F.name = some (.ref F.a)
  sc : FnScope F.N F.ps F.scope
  nd : F.N.Nodup
  bd : Bd M.K F.fd F.ps
  nm : d.name = F.name
  dN : d.N = F.N
  np : d.np = F.ps.length
/-- Γ speaks of the module -/
structure Of (M : Md) (Γ : Cg) : Prop where
  K : Γ.K = M.K
  T : Γ.T = M.T
  cls : Γ.cls = M.cls
theorem StOk.re {Γ Γ' : Cg} {m : List Addr} {S : Sto} {H : Hp} (hK : Γ.K = Γ'.K) (hT : Γ.T = Γ'.T) (hh : Γ.hid = Γ'.hid) (st : StOk Γ m S H) : StOk Γ' m S H := by
  refine ⟨st.len, st.nd, by rw [← hh]; exact st.hidm, by rw [← hh]; exact st.hids, fun n a o h1 h2 => ?_, by rw [← hT]; exact st.tabs⟩
  have ho := st.obj n a o h1 h2
  cases o with
  | lst l =>
    obtain ⟨vs, e, hl⟩ := ho
    refine ⟨vs, e, ?_⟩
    show BrL Γ'.K Γ'.hid m H l vs
    rw [← hK, ← hh]
    exact hl
  | ins c fs => exact (show False from ho).elim
/-- what a def promises at the level k -/
def spF (M : Md) (k f : Nat) : Sp := fun vs H Q E => ∃ (Γ : Cg) (m : List Addr) (S : Sto) (ds : List D), Of M Γ ∧ StOk Γ m S H ∧ Γ.brl m H ds vs ∧ Sat Γ E m H (callF M.prg M.wf k f ds noThk S) (PV Γ Q)
def Fn (M : Md) (k f : Nat) : Prop := ∀ (A : Around) (outer : List PySem.Env) (s : Shared) (H : Hp) (args : Args) (us : List Value) (vs : List V) (Q : VK) (E : XK), Room k A → A.guards = some [] → Env0 M.P M.w M.K M.mg M.base A outer s H → BindsTo s (M.fds f).fd args ((M.fds f).ps.zip us) → Vals vs us → spF M k f vs H Q E →
  codeAny (model M.P M.w) A (.call (.ref (M.fds f).a) args) (CR (L2.CX M.P M.w) outer M.P M.w H s Q E) s
theorem callF_len {M : Md} {k f : Nat} {d : Def} {ds : List D} {th : Thk} {S : Sto} (hd : M.prg.defs[f]? = some d) (h : callF M.prg M.wf k f ds th S ≠ .bad) : ds.length = d.np := by
  cases k with
  | zero => exact absurd rfl h
  | succ k =>
    by_cases e : ds.length = d.np
    · exact e
    · refine absurd ?_ h
      show (if k + 1 = k + 1 then _ else _) = _
      rw [if_pos rfl, hd]
      show (if ds.length = d.np then _ else _) = _
      rw [if_neg e]
/-! ### where an expression stands -/
structure Fl where
  cm : Bool
  lm : Bool
  ac : Bool
  xc : Bool
structure GX (M : Md) (n : Nat) (th : Thk) (fl : Fl) (sc : Scope) (N : List Str) (X : Cx) (Γ : Cg) (W : WX) : Prop where
  prog : X.prog = M.P
  w : X.w = M.w
  K : X.K = M.K
  mg : X.mg = M.mg
  base : X.base = M.base
  of : Of M Γ
  N : X.N = N
  nd : X.N.Nodup
  sco : X.env.scope = sc
  cm : fl.cm = true → X.calm = true ∧ Room n X.A
  gu : X.A.guards = some []
  un : X.A.units + 80 < cLine
  tk : Takes X W
  lm : fl.lm = true → ∃ c P, X.env.code = .ref c ∧ LamX.TabB M.base M.mg c P ∧ (P, X.env.qual ++ "<lambda>") ∈ M.T ∧ ∀ p ∈ M.T, p.1 = P → p.2 = X.env.qual ++ "<lambda>"
  ac : fl.ac = true → ∀ (pn : List (Addr × Obj)) (xe : Value → Shared → Prop) (W' : WX), Takes (X.tr pn xe) W' → ∀ (i : Nat) (x : Str) (p1 p2 : Pos), X.N[i]? = some x → Vis sc x → (x == ("__debug__" : Str)) = false → (x == ("__classdict__" : Str)) = false → PE (X.tr pn xe) (.Call (.Name x p1) [] [] p2) (rE Γ W' (actR th i))
  xw : fl.xc = true → ∀ (i : Nat) (x : Str) (p1 p2 : Pos), X.N[i]? = some x → Vis sc x → (x == ("__debug__" : Str)) = false → (x == ("__classdict__" : Str)) = false → PE X (.Attribute (.Name x p1) "what" p2) (rE Γ W (whatR i))
  xi : fl.xc = true → ∀ (i c : Nat) (x y : Str) (p p1 p2 pos : Pos), X.N[i]? = some x → Vis sc x → (x == ("__debug__" : Str)) = false → (x == ("__classdict__" : Str)) = false → Gl X "isinstance" → Src X "isinstance" (.builtin "isinstance") → Gl X y → M.prg.cls[c]? = some y → PE X (.Call (.Name "isinstance" p) [.Name x p1, .Name y p2] [] pos) (rE Γ W (isxR (subP M.prg) i c))
section
variable {M : Md} {n : Nat} {th : Thk} {fl : Fl} {sc : Scope} {N : List Str} {Γ : Cg} {X : Cx} {W : WX} {pos p : Pos} {fs : Env → Sto → R (List D)} {a : Expr} {es : List Expr} {x : Str} {f : Nat} {d : Def}
theorem GX.hk (g : GX M n th fl sc N X Γ W) : Γ.K = X.K := g.of.K.trans g.K.symm
theorem run_fn' (g : GX M n th fl sc N X Γ W) (hd : M.prg.defs[f]? = some d) (ok : FdOk M (M.fds f) d) (fn : Fn M n f) (hc : fl.cm = true) {pins : List (Addr × Obj)} {σ : L2.St} {H : Hp} {s : Shared} {Q : VK} {us : List Value} {vs : List V} (I : Inv X pins σ H s) (r : Vals vs us) (h : spF M n f vs H Q (WE W σ)) :
    wpAny (model X.prog X.w) X.A (call (.ref (M.fds f).a) us) (EP X pins σ Q) X.xe s := by
  have hl : us.length = (M.fds f).ps.length := by
    obtain ⟨Γ', m, S, ds, o, st, bl, q⟩ := h
    rw [← ok.np, ← callF_len (M := M) (k := n) (th := noThk) (S := S) hd (fun z => by rw [z] at q; exact q), ← r.length, BrL.length bl]
  have e0 := I.env0
  have kIn := I.kIn
  rw [g.prog, g.w, g.K, g.mg, g.base] at e0
  rw [g.K] at kIn
  have bd := ok.bd.pos s us kIn (by rw [List.append_nil]; exact hl)
  rw [List.append_nil] at bd
  have run := fn X.A X.stack s H ⟨us, []⟩ us vs Q (WE W σ) (g.cm hc).2 g.gu e0 bd r h
  rw [← g.prog, ← g.w] at run
  refine wpAny_call (codeAny_mono run fun r s' hq => ?_)
  match r, hq with
  | .error e, hq => exact passAt g.tk σ pins H s e s' I hq
  | .ok (.ret u), hq => exact I.after hq
theorem pe_fn (g : GX M n th fl sc N X Γ W) (hd : M.prg.defs[f]? = some d) (ok : FdOk M (M.fds f) d) (fn : Fn M n f) (hc : fl.cm = true) (hx : x = d.name) (hg : Gl X x) (hdb : (x == ("__debug__" : Str)) = false) (ha : PA X (a :: es) (rA Γ W fs)) (he : starEach (a :: es) X.env = (false, eval a X.env) :: starEach es X.env)
    (hpl : (backTo pos (starEach es X.env)).any (·.1) = false) : PE X (.Call (.Name x p) (a :: es) [] pos) (rE Γ W fun ρ S => (fs ρ S).bind fun xs S1 => callF M.prg M.wf n f xs noThk S1) := by
  refine ⟨fun pins s σ H Q I h => wpAny_Call_Name_kw (ld_glob (u := .ref (M.fds f).a) I hg (by rw [g.mg, hx, ok.nm]; exact ok.mg) ?_ hdb)⟩
  obtain ⟨m, S, ρ, st, en, h⟩ := h
  have hq : rA Γ W fs σ H fun vs H1 => spF M n f vs H1 Q (WE W σ) := ⟨m, S, ρ, st, en, h.bind.imp fun xs m1 S1 H1 _ st1 h1 vs hv => ⟨Γ, m1, S1, xs, g.of, st1, hv, h1⟩⟩
  exact PySem.W.callWith_K (h₀ := X.base) I.ok.mod.kin (by rw [g.K]; exact ok.keep) (thn (ha.run pos pins s σ H _ I hq) fun us s1 ⟨vs, H1, I1, r, q⟩ => ⟨I1.kIn, run_fn' g hd ok fn hc I1 r q⟩) he hpl
theorem pe_fn0 (g : GX M n th fl sc N X Γ W) (hd : M.prg.defs[f]? = some d) (ok : FdOk M (M.fds f) d) (fn : Fn M n f) (hc : fl.cm = true) (hx : x = d.name) (hg : Gl X x) (hdb : (x == ("__debug__" : Str)) = false) : PE X (.Call (.Name x p) [] [] pos) (rE Γ W fun ρ S => callF M.prg M.wf n f [] noThk S) := by
  refine ⟨fun pins s σ H Q I h => wpAny_Call_Name_kw (ld_glob (u := .ref (M.fds f).a) I hg (by rw [g.mg, hx, ok.nm]; exact ok.mg) ?_ hdb)⟩
  obtain ⟨m, S, ρ, st, en, h⟩ := h
  exact PySem.W.callWith_K0 I.kIn (by rw [g.K]; exact ok.keep) (run_fn' (us := []) g hd ok fn hc I .nil ⟨Γ, m, S, [], g.of, st, by simp [Cg.brl, BrL], h⟩)
theorem run_fnk' (g : GX M n th fl sc N X Γ W) (hd : M.prg.defs[f]? = some d) (ok : FdOk M (M.fds f) d) (fn : Fn M n f) (hc : fl.cm = true) {pins : List (Addr × Obj)} {σ : L2.St} {H : Hp} {s : Shared} {Q : VK} {us : List Value} {vs : List V} (I : Inv X pins σ H s) (r : Vals vs us) (h2 : us.length ≤ 2) (h : spF M n f vs H Q (WE W σ)) :
    wpAny (model X.prog X.w) X.A (call (.ref (M.fds f).a) [] ((M.fds f).ps.zip us)) (EP X pins σ Q) X.xe s := by
  have hl : us.length = (M.fds f).ps.length := by
    obtain ⟨Γ', m, S, ds, o, st, bl, q⟩ := h
    rw [← ok.np, ← callF_len (M := M) (k := n) (th := noThk) (S := S) hd (fun z => by rw [z] at q; exact q), ← r.length, BrL.length bl]
  have e0 := I.env0
  have kIn := I.kIn
  rw [g.prog, g.w, g.K, g.mg, g.base] at e0
  rw [g.K] at kIn
  have run := fn X.A X.stack s H ⟨[], (M.fds f).ps.zip us⟩ us vs Q (WE W σ) (g.cm hc).2 g.gu e0 (ok.bd.kw s us kIn hl h2) r h
  rw [← g.prog, ← g.w] at run
  refine wpAny_call (codeAny_mono run fun r s' hq => ?_)
  match r, hq with
  | .error e, hq => exact passAt g.tk σ pins H s e s' I hq
  | .ok (.ret u), hq => exact I.after hq
theorem kw_all {kws : List Keyword} {env : PySem.Env} {q : Pos} (h : kws.all (fun k => k.arg.isSome) = true) : (backToKw q (keywordEach kws env)).all (·.1.isSome) = true ∧ (backToKw q (keywordEach kws env)).any (·.1.isNone) = false ∧ (backToKw q (keywordEach kws env)).filterMap (·.1) = kws.filterMap (·.arg) := by
  induction kws with
  | nil => exact ⟨rfl, rfl, rfl⟩
  | cons k kws ih =>
    obtain ⟨a, e, p⟩ := k
    simp only [List.all_cons, Bool.and_eq_true] at h
    obtain ⟨h1, h2, h3⟩ := ih h.2
    cases a with
    | none => cases h.1
    | some a =>
      have e1 : backToKw q (keywordEach (⟨some a, e, p⟩ :: kws) env) = (some a, do let v ← eval e env; standAt q; pure v) :: backToKw q (keywordEach kws env) := rfl
      rw [e1]
      refine ⟨by rw [List.all_cons, h1]; rfl, by rw [List.any_cons, h2]; rfl, ?_⟩
      rw [List.filterMap_cons, List.filterMap_cons, h3]
/-- f(a = .., b = ..) -/
theorem pe_fnK {kws : List Keyword} (g : GX M n th fl sc N X Γ W) (hd : M.prg.defs[f]? = some d) (ok : FdOk M (M.fds f) d) (fn : Fn M n f) (hc : fl.cm = true) (hx : x = d.name) (hg : Gl X x) (hdb : (x == ("__debug__" : Str)) = false) (ha : PK X kws (rA Γ W fs)) (hall : kws.all (fun k => k.arg.isSome) = true) (hnm : kws.filterMap (·.arg) = (M.fds f).ps) (h2 : kws.length ≤ 2)
    (hlen : ∀ ρ S l S', fs ρ S = .ok l S' → l.length = kws.length) : PE X (.Call (.Name x p) [] kws pos) (rE Γ W fun ρ S => (fs ρ S).bind fun xs S1 => callF M.prg M.wf n f xs noThk S1) := by
  refine ⟨fun pins s σ H Q I h => wpAny_Call_Name_kw (ld_glob (u := .ref (M.fds f).a) I hg (by rw [g.mg, hx, ok.nm]; exact ok.mg) ?_ hdb)⟩
  obtain ⟨m, S, ρ, st, en, h⟩ := h
  have hq : rA Γ W fs σ H fun vs H1 => vs.length ≤ 2 ∧ spF M n f vs H1 Q (WE W σ) := by
    refine ⟨m, S, ρ, st, en, ?_⟩
    have h : Sat Γ (fun c d H' => W c d σ H') m H ((fs ρ S).bind fun xs S1 => callF M.prg M.wf n f xs noThk S1) (PV Γ Q) := h
    cases e : fs ρ S with
    | ok xs S1 =>
      rw [e] at h
      exact fun m1 H1 g1 st1 vs hv => ⟨by rw [← BrL.length hv, hlen _ _ _ _ e]; exact h2, Γ, m1, S1, xs, g.of, st1, hv, Sat.from g1 h⟩
    | exn c w S1 => rw [e] at h; exact h
    | bad => rw [e] at h; exact (show False from h).elim
  obtain ⟨k1, k2, k3⟩ := kw_all (env := X.env) (q := pos) hall
  refine PySem.W.callWith_KW0 (h₀ := X.base) I.ok.mod.kin (by rw [g.K]; exact ok.keep) k1 (thn (ha.run pos pins s σ H _ I hq) fun us s1 ⟨vs, H1, I1, r, q1, q2⟩ => ⟨I1.kIn, ?_⟩) (by rw [k2]; rfl)
  rw [k3, hnm]
  exact run_fnk' g hd ok fn hc I1 r (by rw [← r.length]; exact q1) q2
theorem PK.imp {X : Cx} {e : List Keyword} {t t' : TA} (h : PK X e t) (k : ∀ σ H Q, t' σ H Q → t σ H Q) : PK X e t' := ⟨fun pos pins s σ H Q I q => h.run pos pins s σ H Q I (k σ H Q q)⟩
theorem pk_none : PK X [] (rA Γ W fun _ S => .ok [] S) := by
  refine PK.imp pk_nil fun σ H Q h => ?_
  obtain ⟨m, S, ρ, st, en, h⟩ := h
  exact h.ok st [] (by simp [Cg.brl, BrL])
theorem pk_more {nm : Option Str} {kpos : Pos} {kws : List Keyword} {fa : Bh.Env → Sto → R D} (ha : PE X a (rE Γ W fa)) (hr : PK X kws (rA Γ W fs)) : PK X (⟨nm, a, kpos⟩ :: kws) (rA Γ W fun ρ S => (fa ρ S).bind fun x S1 => (fs ρ S1).bind fun xs S2 => .ok (x :: xs) S2) := by
  refine PK.imp (pk_cons ha hr) fun σ H Q h => ?_
  obtain ⟨m, S, ρ, st, en, h⟩ := h
  refine ⟨m, S, ρ, st, en, h.bind.imp fun x m1 S1 H1 g st1 h1 v hv => ?_⟩
  refine ⟨m1, S1, ρ, st1, en.grow g, h1.bind.imp fun xs m2 S2 H2 g2 st2 h2 vs hvs => ?_⟩
  refine h2.ok st2 (v :: vs) ?_
  simp only [Cg.brl, BrL]
  exact ⟨v, vs, rfl, Br.grow g2 _ _ hv, hvs⟩
end
end Bh

set_option Elab.async false
set_option linter.all false
set_option maxRecDepth 10000
namespace Bh
open PySem PySem.Spec L2 PyProof.Rows
/-! ### what a statement wants of the rest -/
def SatS (Γ : Cg) (W : WX) (m : List Addr) (H : Hp) (r : RS) (D : Ends) : Prop := match r with
  | .next ρ S' => ∀ m' H' σ, Grow m H m' H' → StOk Γ m' S' H' → EnvOk Γ m' H' ρ σ → D.nx σ H'
  | .ret d S' => ∀ m' H' v, Grow m H m' H' → StOk Γ m' S' H' → Γ.br m' H' d v → D.rt v H'
  | .exn c w ρ S' => ∀ m' H' σ dx v, Grow m H m' H' → StOk Γ m' S' H' → EnvOk Γ m' H' ρ σ → Xd H' dx v → dx ∉ m' → dx ∉ Γ.hid → Γ.br m' H' w v → W (.ref (Γ.cls c)) (some dx) σ H'
  | .bad => False
def rSm (Γ : Cg) (W : WX) (f : Env → Sto → RS) : TS := fun D σ H => ∃ m S ρ, StOk Γ m S H ∧ EnvOk Γ m H ρ σ ∧ SatS Γ W m H (f ρ S) D
/-- .. and where it stands -/
structure GS (M : Md) (n : Nat) (th : Thk) (fl : Fl) (sc : Scope) (N : List Str) (X : Cx) (Γ : Cg) (W : WX) : Prop where
  x : GX M n th fl sc N X Γ W
  pw : fl.cm = true → PassesOwn (model X.prog X.w) X.A X.env X.xe
  st : X.stack = X.env :: X.outer
  fr : X.env.frame = some X.env.locals
  fn : ∀ x, X.fn x = true
/-- the bodies at the level j -/
def BodyS (M : Md) (j : Nat) (lms : Nat → Bool) : Prop := ∀ (f : Nat) (d : Def) (th : Thk) (X : Cx) (Γ : Cg) (W : WX), M.prg.defs[f]? = some d → GS M j th ⟨true, lms f, true, false⟩ (M.fds f).scope (M.fds f).N X Γ W →
  PSs X (M.fds f).body (rSm Γ W fun ρ S => exss (M.prg.globs.map (·.2)) (subP M.prg) (tab M.prg M.wf j) M.wf d.body j th ρ S)
/-- the module -/
structure MdOk (M : Md) (lms : Nat → Bool) : Prop where
  ok : ∀ f d, M.prg.defs[f]? = some d → FdOk M (M.fds f) d
  lam : ∀ f, lms f = true → ∀ (q : Str), q = (M.fds f).name ++ ".<locals>." → ∃ c P, (M.fds f).cdv = .ref c ∧ LamX.TabB M.base M.mg c P ∧ (P, q ++ "<lambda>") ∈ M.T ∧ ∀ p ∈ M.T, p.1 = P → p.2 = q ++ "<lambda>"
section
variable {M : Md} {lms : Nat → Bool}
/-- a def's end -/
theorem fin_def {Γ : Cg} {W : WX} {E : XK} {m : List Addr} {H : Hp} {k f : Nat} {d : Def} {ds : List D} {th : Thk} {S : Sto} {Q : VK} (hd : M.prg.defs[f]? = some d) (hW : ∀ c e σ H', E c e H' → W c e σ H') (h : Sat Γ E m H (callF M.prg M.wf (k + 1) f ds th S) (PV Γ Q)) :
    ds.length = d.np ∧ SatS Γ W m H (exss (M.prg.globs.map (·.2)) (subP M.prg) (tab M.prg M.wf k) M.wf d.body k th (startE d.N.length d.np ds) S) { nx := fun _ H' => Q .non H', rt := Q } := by
  have hl : ds.length = d.np := callF_len hd fun z => by rw [z] at h; exact h
  refine ⟨hl, ?_⟩
  have e : callF M.prg M.wf (k + 1) f ds th S = (match exss (M.prg.globs.map (·.2)) (subP M.prg) (tab M.prg M.wf k) M.wf d.body k th (startE d.N.length d.np ds) S with
      | .next _ S' => .ok .non S'
      | .ret x S' => .ok x S'
      | .exn c w _ S' => .exn c w S'
      | .bad => .bad) := by
    show (if k + 1 = k + 1 then _ else _) = _
    rw [if_pos rfl, hd]
    show (if ds.length = d.np then _ else _) = _
    exact if_pos hl
  rw [e] at h
  cases er : exss (M.prg.globs.map (·.2)) (subP M.prg) (tab M.prg M.wf k) M.wf d.body k th (startE d.N.length d.np ds) S with
  | next ρ S' =>
    rw [er] at h
    exact fun m' H' σ g st _ => h m' H' g st _ (by simp [Cg.br, Br])
  | ret x S' =>
    rw [er] at h
    exact fun m' H' v g st hv => h m' H' g st v hv
  | exn c w ρ S' =>
    rw [er] at h
    exact fun m' H' σ dx v g st _ h1 h2 h3 h4 => hW _ _ _ _ (h m' H' dx v g st h1 h2 h3 h4)
  | bad =>
    rw [er] at h
    exact h.elim
/-- the slots at the entry -/
theorem EnvOk.start {Γ : Cg} {m : List Addr} {H : Hp} {N : List Str} {np : Nat} : ∀ {ds : List D} {vs : List V}, ds.length = vs.length → ds.length = np → (∀ (i : Nat) (d : D), ds[i]? = some d → ∃ v, vs[i]? = some v ∧ BrE Γ m H d v) → EnvOk Γ m H (startE N.length np ds) (L2.start N vs) := fun {ds vs} hv hn h => by
  refine ⟨by simp [startE, L2.start, ← hv, hn], fun i d e => ?_⟩
  unfold startE at e
  by_cases q : i < ds.length
  · rw [List.getElem?_append_left (by simpa using q), List.getElem?_map] at e
    obtain ⟨d', e1, e2⟩ := Option.map_eq_some_iff.mp e
    cases e2
    obtain ⟨v, h1, h2⟩ := h i d e1
    refine ⟨v, ?_, h2⟩
    unfold L2.start
    rw [List.getElem?_append_left (by simpa [← hv] using q), List.getElem?_map, h1]
    rfl
  · rw [List.getElem?_append_right (by simpa using q)] at e
    have := List.mem_of_getElem? e
    rw [List.mem_replicate] at this
    cases this.2
theorem brl_env {Γ : Cg} {m : List Addr} {H : Hp} {ds : List D} {vs : List V} (h : Γ.brl m H ds vs) (i : Nat) (d : D) (e : ds[i]? = some d) : ∃ v, vs[i]? = some v ∧ BrE Γ m H d v := by
  obtain ⟨v, h1, h2⟩ := BrL.get h e
  exact ⟨v, h1, BrE.of h2⟩
/-- where a def's body stands -/
theorem gs_def (mo : MdOk M lms) {k f : Nat} {d : Def} {th : Thk} {Γ : Cg} {A : Around} {outer : List PySem.Env} {s : Shared} {H : Hp} {E : XK} (hd : M.prg.defs[f]? = some d) (of : Of M Γ) (hr : Room k (A.deeper (envOfC (M.fds f).name (M.fds f).scope s.heap.objs.size (M.fds f).a (M.fds f).cdv))) (hg : A.guards = some [])
    (ac : ∀ (pn : List (Addr × Obj)) (xe : Value → Shared → Prop) (W' : WX), Takes ((cxOf (L2.CX M.P M.w) M.P M.w M.K M.mg M.base (M.fds f).N (M.fds f).name (M.fds f).scope (M.fds f).a (M.fds f).cdv A outer s H E).tr pn xe) W' → ∀ (i : Nat) (x : Str) (p1 p2 : Pos), (M.fds f).N[i]? = some x → Vis (M.fds f).scope x → (x == ("__debug__" : Str)) = false → (x == ("__classdict__" : Str)) = false →
      PE ((cxOf (L2.CX M.P M.w) M.P M.w M.K M.mg M.base (M.fds f).N (M.fds f).name (M.fds f).scope (M.fds f).a (M.fds f).cdv A outer s H E).tr pn xe) (.Call (.Name x p1) [] [] p2) (rE Γ W' (actR th i))) :
    GS M k th ⟨true, lms f, true, false⟩ (M.fds f).scope (M.fds f).N (cxOf (L2.CX M.P M.w) M.P M.w M.K M.mg M.base (M.fds f).N (M.fds f).name (M.fds f).scope (M.fds f).a (M.fds f).cdv A outer s H E) Γ (fun cls e _ H' => E cls e H') := by
  have ok := mo.ok f d hd
  generalize hX : cxOf (L2.CX M.P M.w) M.P M.w M.K M.mg M.base (M.fds f).N (M.fds f).name (M.fds f).scope (M.fds f).a (M.fds f).cdv A outer s H E = X at ac ⊢
  have e1 : X.prog = M.P := by rw [← hX]; rfl
  have e2 : X.w = M.w := by rw [← hX]; rfl
  have e3 : X.K = M.K := by rw [← hX]; rfl
  have e4 : X.mg = M.mg := by rw [← hX]; rfl
  have e5 : X.base = M.base := by rw [← hX]; rfl
  have e6 : X.N = (M.fds f).N := by rw [← hX]; rfl
  have e7 : X.env = envOfC (M.fds f).name (M.fds f).scope s.heap.objs.size (M.fds f).a (M.fds f).cdv := by rw [← hX]; rfl
  have e8 : X.calm = true := by rw [← hX]; rfl
  have e9 : X.A = A.deeper (envOfC (M.fds f).name (M.fds f).scope s.heap.objs.size (M.fds f).a (M.fds f).cdv) := by rw [← hX]; rfl
  have st : X.stack = X.env :: X.outer := by rw [← hX]; rfl
  have fr : X.env.frame = some X.env.locals := by rw [e7]; rfl
  have hx : X.xe = fun e s' => wpAny (model X.prog X.w) X.A (leaving X.env e) (fun _ s'' => L2.CX X.prog X.w X.outer X.H_0 X.s_0 E e s'') (fun e' s'' => L2.CX X.prog X.w X.outer X.H_0 X.s_0 E e' s'') s' := by rw [← hX]; rfl
  have hex : X.ex = [] := by rw [← hX]; rfl
  have un : X.A.units + 80 < cLine := by
    have := hr.un
    rw [e9]
    omega
  have tk : Takes X (fun cls e _ H' => E cls e H') := takes_of st fr hex hx
  have pw : PassesOwn (model X.prog X.w) X.A X.env X.xe := passes_of hx
  have gu : X.A.guards = some [] := by rw [e9]; exact hg
  have rm : Room k X.A := by rw [e9]; exact hr
  have sco : X.env.scope = (M.fds f).scope := by rw [e7]; rfl
  have nd : X.N.Nodup := by rw [e6]; exact ok.nd
  have lm : lms f = true → ∃ c P, X.env.code = .ref c ∧ LamX.TabB M.base M.mg c P ∧ (P, X.env.qual ++ "<lambda>") ∈ M.T ∧ ∀ p ∈ M.T, p.1 = P → p.2 = X.env.qual ++ "<lambda>" := fun hl => by
    obtain ⟨c, P, h1, h2, h3, h4⟩ := mo.lam f hl _ rfl
    have q1 : X.env.code = (M.fds f).cdv := by rw [e7]; rfl
    have q2 : X.env.qual = (M.fds f).name ++ ".<locals>." := by rw [e7]; rfl
    rw [q1, q2]
    exact ⟨c, P, h1, h2, h3, h4⟩
  have gx : GX M k th ⟨true, lms f, true, false⟩ (M.fds f).scope (M.fds f).N X Γ (fun cls e _ H' => E cls e H') := {
    prog := e1, w := e2, K := e3, mg := e4, base := e5, of := of, N := e6, nd := nd, sco := sco, cm := fun _ => ⟨e8, rm⟩, gu := gu, un := un, tk := tk, lm := lm
    ac := fun _ pn xe W' t i x p1 p2 h1 h2 h3 h4 => ac pn xe W' t i x p1 p2 (by rw [← e6]; exact h1) h2 h3 h4
    xw := fun z => (by cases z)
    xi := fun z => (by cases z) }
  have fn : ∀ x, X.fn x = true := fun x => by rw [← hX]; rfl
  exact ⟨gx, fun _ => pw, st, fr, fn⟩
/-- a def's promise from its body -/
theorem fn_body (mo : MdOk M lms) {k : Nat} (hB : BodyS M k lms) {f : Nat} {d : Def} (hd : M.prg.defs[f]? = some d) : Fn M (k + 1) f := by
  intro A outer s H args us vs Q E hr hg e0 hb r h
  obtain ⟨Γ, m, S, ds, of, st, bl, h⟩ := h
  have ok := mo.ok f d hd
  obtain ⟨hl, fin⟩ := fin_def (W := fun cls e _ H' => E cls e H') hd (fun _ _ _ _ h => h) h
  refine LamX.run_ofS ok.lk ok.cd ok.sc hr e0 hb r (by rw [← BrL.length bl, hl, ok.np]) fun hr' => ?_
  have nothk : ∀ {X : Cx} {W' : WX} {i : Nat} {e : Expr}, PE X e (rE Γ W' (actR noThk i)) := fun {X W' i e} => ⟨fun pins s σ H Q I ⟨m, S, ρ, st, en, h⟩ => by
      have z : actR noThk i ρ S = .bad := by unfold actR; split <;> rfl
      rw [z] at h
      exact h.elim⟩
  have gs := gs_def (th := noThk) (E := E) (outer := outer) (H := H) mo hd of hr' hg fun _ _ _ _ _ _ _ _ _ _ _ _ => nothk
  refine ⟨_, hB f d noThk _ Γ _ hd gs, m, S, _, st, EnvOk.start (N := (M.fds f).N) (np := d.np) (BrL.length bl) hl (brl_env bl), ?_⟩
  rw [← ok.dN]
  exact fin
theorem fn_zero {f : Nat} : Fn M 0 f := by
  intro A outer s H args us vs Q E hr hg e0 hb r h
  obtain ⟨Γ, m, S, ds, of, st, bl, h⟩ := h
  exact (show False from h).elim
end
end Bh

set_option Elab.async false
set_option linter.all false
set_option maxRecDepth 10000
namespace Bh
open PySem PySem.Spec L2 PyProof.Rows
/-! ### a lambda handed to a def -/
section
variable {X : Cx} {pins : List (Addr × Obj)} {σ : L2.St} {H : Hp} {s : Shared}
abbrev lamN (X : Cx) : Str := X.env.qual ++ "<lambda>"
/-- the callee's context -/
abbrev calX (X : Cx) (Fg : Fd) (s : Shared) (H : Hp) (Eg : XK) : Cx := cxOf (L2.CX X.prog X.w) X.prog X.w X.K X.mg X.base Fg.N Fg.name Fg.scope Fg.a Fg.cdv X.A X.stack s H Eg
/-- the lambda is called, what it lets out hangs on the callee's slots -/
theorem act_ok {Fg : Fd} {Eg : XK} {f c' : Addr} {pm ctv : Value} {params : Arguments} {body : Expr} {scope : Scope} {k i : Nat} {a : Str} {pn : List (Addr × Obj)} {xe : Value → Shared → Prop} {W : WX} {t : XK → TE} {p1 p2 : Pos}
    (I : Inv X pins σ H s) (L : LamX.LamS X.env.scope scope) (hf : s.heap.get? f = some (PySem.W.kla_obj "<lambda>" (lamN X) params body scope (cloFrom X.env.cells scope.names []) pm c' ctv)) (hfn : H f = none) (hfr : f ∉ frs X.stack)
    (hbind : bindArgs (PySem.W.kla_fn "<lambda>" (lamN X) params body scope (cloFrom X.env.cells scope.names []) pm (.ref c') ctv) ⟨[], []⟩ = pure []) (tk : Takes ((calX X Fg s H Eg).tr pn xe) W) (hr : Room (k + 1) (X.A.deeper (envOfC Fg.name Fg.scope s.heap.objs.size Fg.a Fg.cdv))) (hgu : X.A.guards = some [])
    (hbody : ∀ (B : Around) (outer : List PySem.Env) (s : Shared) (H : Hp) (E : XK), Room k (B.deeper (LamX.lamEnv X scope s.heap.objs.size f c')) → B.guards = some [] → PE (LamX.lamCx X B outer s H E scope f c') body (t E))
    (hN : Fg.N[i]? = some a) (hv : Vis Fg.scope a) (hd : (a == ("__debug__" : Str)) = false) (hcd : (a == ("__classdict__" : Str)) = false) :
    PE ((calX X Fg s H Eg).tr pn xe) (.Call (.Name a p1) [] [] p2) (fun τ G Q => τ[i]? = some (some (.ref f)) ∧ G c' = some (LamX.CodeO c' (lamN X)) ∧ t (WE W τ) σ G Q) := by
  refine ⟨fun pinsZ sZ τ G Q IZ ⟨hs, hc, ht⟩ => ?_⟩
  refine wpAny_Call_Name_kw (thn ((pe_var (pos := p1) (i := i) hN hv hd hcd).run pinsZ sZ τ G (fun v G1 => v = .ref f ∧ G1 = G) IZ ⟨.ref f, hs, rfl, rfl⟩) fun u s1 ⟨v, G1, I1, r1, ev, eG⟩ => ?_)
  subst ev
  subst eG
  obtain rfl : u = Value.ref f := r1
  have un : Un (frs X.stack) [] H G1 s.heap s1.heap := I1.base
  have at1 : s1.heap.get? f = some (PySem.W.kla_obj "<lambda>" (lamN X) params body scope (cloFrom X.env.cells scope.names []) pm c' ctv) := un.keep f _ hf hfn hfr (fun z => nomatch (show f ∈ ([] : List Addr) from z))
  refine PySem.W.callWith_F0 ⟨_, _, _, _, at1⟩ ?_
  obtain ⟨⟨oc, vs, tk', hoc, hdc, hvc⟩, _, _⟩ := I1.hok c' _ hc
  have run : codeAny (model X.prog X.w) (X.A.deeper (envOfC Fg.name Fg.scope s.heap.objs.size Fg.a Fg.cdv)) (.call (.ref f) ⟨[], []⟩) (CR (L2.CX X.prog X.w) (envOfC Fg.name Fg.scope s.heap.objs.size Fg.a Fg.cdv :: X.stack) X.prog X.w G1 s1 Q (WE W τ)) s1 := by
    refine PySem.W.kla_callFunE hr.depth at1 rfl L.co L.gen rfl ⟨c', oc, vs, tk', rfl, hoc, hdc, hvc⟩ ?_
    rw [hbind]
    refine wpAny_pure (wpAny_newFunctionEnv (fun y hy => (L.own y hy).2) (fun y hy => absurd hy (by simp)) (fun h₁ hns hsb => ⟨I1.nolimit.fresh _ hsb, ?_⟩) L.kind)
    show codeAny _ _ (.expr body (LamX.lamEnv X scope s1.heap.objs.size f c')) _ _
    have J : Inv (LamX.lamCx X (X.A.deeper (envOfC Fg.name Fg.scope s.heap.objs.size Fg.a Fg.cdv)) (envOfC Fg.name Fg.scope s.heap.objs.size Fg.a Fg.cdv :: X.stack) s1 G1 (WE W τ) scope f c') [] σ G1 { s1 with heap := h₁, toks := s1.toks + ([] : List (Str × Value)).length } :=
      LamX.lam_start2 I L I1.env0 hr.hd un hns fun b o e => hsb.extBut b o (Nat.ne_of_lt (Heap.lt_size e)) (Heap.get?_push_of_some _ e)
    exact PySem.W.kla_codeExpr (wpAny_mono ((hbody _ _ s1 G1 (WE W τ) (hr.deeper _) hgu).run [] _ _ G1 Q J ht) (fun v s' ⟨w', H', J', rv, q⟩ => ⟨w', H', J'.os, J'.bare, J'.base, J'.hok, rv, q⟩) fun e s' hq => hq)
  refine wpAny_call (codeAny_mono run fun r s' hq => ?_)
  match r, hq with
  | .error e, hq => exact passAt tk τ pinsZ G1 s1 e s' I1 hq
  | .ok (.ret u), hq => exact I1.after hq
end
end Bh

set_option Elab.async false
set_option linter.all false
set_option maxRecDepth 10000
namespace Bh
open PySem PySem.Spec L2 PyProof.Rows
section
variable {Γ Γ' : Cg} {m : List Addr} {H : Hp}
theorem br_re (hK : Γ.K = Γ'.K) (hh : Γ.hid = Γ'.hid) {d : D} {v : V} (h : Γ.br m H d v) : Γ'.br m H d v := by
  show Br Γ'.K Γ'.hid m H d v
  rw [← hK, ← hh]
  exact h
theorem Sat.re {α : Type} {W W' : XK} {r : R α} {P P' : α → List Addr → Sto → Hp → Prop} (hK : Γ.K = Γ'.K) (hT : Γ.T = Γ'.T) (hC : Γ.cls = Γ'.cls) (hh : Γ.hid = Γ'.hid) (hW : ∀ c d G, W c d G → W' c d G) (hP : ∀ a m S H, P a m S H → P' a m S H) (h : Sat Γ W m H r P) : Sat Γ' W' m H r P' := by
  cases r with
  | ok a S => exact fun m' H' g st => hP _ _ _ _ (h m' H' g (st.re hK.symm hT.symm hh.symm))
  | exn c w S =>
    intro m' H' dx v g st h1 h2 h3 h4
    rw [← hC]
    exact hW _ _ _ (h m' H' dx v g (st.re hK.symm hT.symm hh.symm) h1 h2 (by rw [hh]; exact h3) (br_re hK.symm hh.symm h4))
  | bad => exact h
theorem Sat.rePV {W W' : XK} {r : R D} {Q : VK} (hK : Γ.K = Γ'.K) (hT : Γ.T = Γ'.T) (hC : Γ.cls = Γ'.cls) (hh : Γ.hid = Γ'.hid) (hW : ∀ c d G, W c d G → W' c d G) (h : Sat Γ W m H r (PV Γ Q)) : Sat Γ' W' m H r (PV Γ' Q) :=
  h.re hK hT hC hh hW fun a m S H p v hv => p v (br_re hK.symm hh.symm hv)
theorem Grow.ext {H H1 : Hp} (e : LamX.ExtN H H1) : Grow m H m H1 := ⟨⟨[], by simp, fun _ h => by simp at h⟩, fun b o h _ n => e b o h n, fun b ⟨o, h, n⟩ => ⟨o, e b o h n, n⟩⟩
theorem StOk.ext {S : Sto} {H H1 : Hp} (st : StOk Γ m S H) (e : LamX.ExtN H H1) (t : LamX.Tabs Γ.T H1) : StOk Γ m S H1 := by
  refine ⟨st.len, st.nd, st.hidm, fun a h => (Grow.ext (m := m) e).there a (st.hids a h), fun n a o h1 h2 => ?_, t⟩
  have ho := st.obj n a o h1 h2
  cases o with
  | lst l =>
    obtain ⟨vs, q, hl⟩ := ho
    exact ⟨vs, e _ _ q lst_nt, BrL.grow (Grow.ext e) _ _ hl⟩
  | ins c fs => exact ho.elim
end
section
variable {M : Md} {k : Nat} {th : Thk} {fl : Fl} {sc : Scope} {N : List Str} {Γ : Cg} {X : Cx} {W : WX} {lms : Nat → Bool} {pos p lpos : Pos} {x a : Str} {f : Nat} {d : Def} {params : Arguments} {body : Expr} {scope : Scope} {fb : Env → Sto → R D}
/-- x(lambda: body) -/
theorem pe_lam (g : GX M (k + 2) th fl sc N X Γ W) (hcm : fl.cm = true) (hlm : fl.lm = true) (mo : MdOk M lms) (hB : BodyS M (k + 1) lms) (hd : M.prg.defs[f]? = some d) (hx : x = d.name) (hps : (M.fds f).ps = [a]) (hg : Gl X x) (hdb : (x == ("__debug__" : Str)) = false)
    (L : LamX.LamS X.env.scope scope) (hdef : defaultsOf params X.env = ([], [])) (hbind : ∀ (q : Str) (cl : List (Str × Addr)) (pm cv ctv : Value), bindArgs (PySem.W.kla_fn "<lambda>" q params body scope cl pm cv ctv) ⟨[], []⟩ = pure [])
    (hbody : ∀ (B : Around) (outer : List PySem.Env) (s : Shared) (H : Hp) (E : XK) (fa c' : Addr), Room k (B.deeper (LamX.lamEnv X scope s.heap.objs.size fa c')) → B.guards = some [] → PE (LamX.lamCx X B outer s H E scope fa c') body (rE Γ (fun c d _ H' => E c d H') fb)) :
    PE X (.Call (.Name x p) [.Lambda params body scope lpos] [] pos) (rE Γ W fun ρ S => callF M.prg M.wf (k + 2) f [.lam] (fun S' => fb ρ S') S) := by
  have ok := mo.ok f d hd
  refine ⟨fun pins s σ H Q I ⟨m, S, ρ, st, en, h⟩ => ?_⟩
  refine wpAny_Call_Name_kw (ld_glob (u := .ref (M.fds f).a) I hg (by rw [g.mg, hx, ok.nm]; exact ok.mg) ?_ hdb)
  refine PySem.W.callWith_K (h₀ := X.base) I.ok.mod.kin (by rw [g.K]; exact ok.keep) ?_ (by rfl) (by rfl)
  obtain ⟨c, P, hcode, TB, hmT, hu⟩ := g.lm hlm
  have hT0 : LamX.Tabs M.T H := by rw [← g.of.T]; exact st.tabs
  show wpAny _ _ (spliced ((false, eval (.Lambda params body scope lpos) X.env) :: backTo pos (starEach [] X.env))) _ _ s
  refine Calls.spliced_cons (LamX.lam_make2 I (by rw [g.base, g.mg]; exact TB) hcode hmT hu hT0 hdef (L.has I.ok) fun fa c' pm' ctv H1 s' I1 eN T1 hf hfn hfr hco => ?_)
  refine Calls.spliced_nil ⟨I1.kIn, ?_⟩
  -- from here on
  have gr : Grow m H m H1 := Grow.ext eN
  have st1 : StOk Γ m S H1 := st.ext eN (by rw [g.of.T]; exact T1)
  have en1 : EnvOk Γ m H1 ρ σ := en.grow gr
  have h1 := Sat.from gr h
  have nc : c' ∉ m := fun z => by
    obtain ⟨o, e, _⟩ := st1.live z
    obtain ⟨n, hn⟩ := List.getElem?_of_mem z
    have hlt : n < S.length := by rw [← st1.len]; exact (List.getElem?_eq_some_iff.mp hn).1
    have ho := st1.obj n c' S[n] hn (by simp [hlt])
    cases q : S[n] with
    | lst l =>
      rw [q] at ho
      obtain ⟨vs, e2, _⟩ := ho
      rw [hco] at e2
      unfold LamX.CodeO at e2
      cases e2
    | ins _ _ => rw [q] at ho; exact (show False from ho).elim
  let Γc : Cg := { Γ with exA := fun _ _ _ => False, lamA := fun b => b = fa, m0 := m, H0 := H1 }
  have ofc : Of M Γc := ⟨g.of.K, g.of.T, g.of.cls⟩
  have stc : StOk Γc m S H1 := StOk.re (Γ := Γ) (Γ' := Γc) rfl rfl rfl st1
  have hc : Sat Γc (WE W σ) m H1 (callF M.prg M.wf (k + 2) f [.lam] (fun S' => fb ρ S') S) (PV Γc Q) := Sat.rePV (Γ := Γ) rfl rfl rfl rfl (fun _ _ _ h => h) h1
  obtain ⟨hl, fin⟩ := fin_def (W := fun cls e _ H' => WE W σ cls e H') hd (fun _ _ _ _ h => h) hc
  have eC : ∀ E, calX X (M.fds f) s' H1 E = cxOf (L2.CX M.P M.w) M.P M.w M.K M.mg M.base (M.fds f).N (M.fds f).name (M.fds f).scope (M.fds f).a (M.fds f).cdv X.A X.stack s' H1 E := fun E => by
    unfold calX
    rw [g.prog, g.w, g.K, g.mg, g.base]
  have rc : codeAny (model X.prog X.w) X.A (.call (.ref (M.fds f).a) ⟨[.ref fa], []⟩) (CR (L2.CX X.prog X.w) X.stack X.prog X.w H1 s' Q (WE W σ)) s' := by
    have hb := ok.bd.pos s' [.ref fa] (by have z := I1.kIn; rw [g.K] at z; exact z) (by rw [List.append_nil, hps]; rfl)
    rw [List.append_nil] at hb
    refine LamX.run_ofS (N := (M.fds f).N) (ps := (M.fds f).ps) (us := [.ref fa]) (vs := [.ref fa]) (by rw [g.K]; exact ok.lk) (by rw [g.K]; exact ok.cd) ok.sc (g.cm hcm).2 I1.env0 hb (.cons rfl .nil) (by rw [hps]; rfl) fun hr' => ?_
    have gs := gs_def (th := fun S' => fb ρ S') (E := WE W σ) (outer := X.stack) (H := H1) (Γ := Γc) mo hd ofc hr' g.gu (by
      intro pn xe W' tk i y p1 p2 hN hv h5 h6
      rw [← eC] at tk ⊢
      refine PE.imp (act_ok (t := fun E => rE Γ (fun c d _ H' => E c d H') fb) I1 L hf hfn hfr (hbind _ _ _ _ _) tk hr' g.gu (fun B outer s H E hr2 hg2 => ?_) hN hv h5 h6) fun τ G Q' hq => ?_
      · exact hbody B outer s H E fa c' hr2 hg2
      · obtain ⟨m', S', ρc, stg, eng, hq⟩ := hq
        unfold actR at hq
        split at hq
        · rename_i e
          obtain ⟨v, e1, fa', e2, e3, gg⟩ := eng.sl i _ e
          subst e2
          obtain rfl : fa' = fa := e3
          have gg : Grow m H1 m' G := gg
          refine ⟨e1, gg.keep _ _ hco nc (fun ps z => LamX.codeO_ne ps z), m', S', ρ, StOk.re (Γ := Γc) (Γ' := Γ) rfl rfl rfl stg, en1.grow gg, ?_⟩
          exact Sat.rePV (Γ := Γc) rfl rfl rfl rfl (fun _ _ _ h => h) hq
        · exact (show False from hq).elim)
    have en2 : EnvOk Γc m H1 (startE d.N.length d.np [.lam]) (L2.start (M.fds f).N [.ref fa]) := by
      rw [ok.dN]
      refine EnvOk.start (N := (M.fds f).N) (np := d.np) rfl hl fun i e ei => ?_
      cases i with
      | zero =>
        cases ei
        exact ⟨.ref fa, rfl, fa, rfl, rfl, .refl⟩
      | succ i => simp at ei
    have hbd := hB f d (fun S' => fb ρ S') _ Γc _ hd gs
    rw [← eC] at hbd
    exact ⟨_, hbd, m, S, _, stc, en2, fin⟩
  refine wpAny_call (codeAny_mono rc fun r s2 hq => ?_)
  match r, hq with
  | .error e, hq => exact passAt g.tk σ pins H1 s' e s2 I1 hq
  | .ok (.ret u), hq => exact I1.after hq
end
end Bh

set_option Elab.async false
set_option linter.all false
set_option maxRecDepth 10000
namespace Bh
open PySem PySem.Spec L2 PyProof.Rows
section
variable {Γ : Cg} {W : WX} {m m1 : List Addr} {H H1 : Hp} {D : Ends} {ρ : Env} {σ : L2.St} {α : Type}
theorem SatS.from {r : RS} (g : Grow m H m1 H1) (h : SatS Γ W m H r D) : SatS Γ W m1 H1 r D := by
  cases r with
  | next ρ S => exact fun m' H' σ g' => h m' H' σ (g.trans g')
  | ret d S => exact fun m' H' v g' => h m' H' v (g.trans g')
  | exn c w ρ S => exact fun m' H' σ dx v g' => h m' H' σ dx v (g.trans g')
  | bad => exact h
theorem SatS.go {r : R α} {f : α → Sto → RS} (en : EnvOk Γ m H ρ σ) (h : SatS Γ W m H (r.go ρ f) D) : Sat Γ (fun c d H' => W c d σ H') m H r fun a m1 S1 H1 => SatS Γ W m1 H1 (f a S1) D := by
  cases r with
  | ok a S => exact fun m' H' g st => SatS.from g h
  | exn c w S => exact fun m' H' dx v g st h1 h2 h3 h4 => h m' H' σ dx v g st (en.grow g) h1 h2 h3 h4
  | bad => exact h
theorem SatS.nxs {r : RS} {D' : Ends} (h : SatS Γ W m H r D) (hn : ∀ σ H1, D.nx σ H1 → D'.nx σ H1) (hr : D.rt = D'.rt := by rfl) : SatS Γ W m H r D' := by
  cases r with
  | next ρ S => exact fun m' H' σ g st en => hn σ H' (h m' H' σ g st en)
  | ret d S => exact fun m' H' v g st hv => by rw [← hr]; exact h m' H' v g st hv
  | exn c w ρ S => exact h
  | bad => exact h
/-- one statement, then the rest -/
theorem SatS.bind {r : RS} {f : Env → Sto → RS} (h : SatS Γ W m H (r.bind f) D) : SatS Γ W m H r { D with nx := fun σ H1 => ∃ m1 S1 ρ1, Grow m H m1 H1 ∧ StOk Γ m1 S1 H1 ∧ EnvOk Γ m1 H1 ρ1 σ ∧ SatS Γ W m1 H1 (f ρ1 S1) D } := by
  cases r with
  | next ρ S => exact fun m' H' σ g st en => ⟨m', S, ρ, g, st, en, SatS.from g h⟩
  | ret d S => exact h
  | exn c w ρ S => exact h
  | bad => exact h
end
section
variable {Γ : Cg} {X : Cx} {W : WX} {pos : Pos} {fa fb : Env → Sto → R D} {fs : Env → Sto → R (List D)} {f1 f2 : Env → Sto → RS} {e tg : Expr} {st : Stmt} {rest : List Stmt}
theorem PS.imp {t t' : TS} (h : PS X st t) (k : ∀ D σ H, t' D σ H → t D σ H) : PS X st t' := ⟨fun pins s σ H D I q => h.run pins s σ H D I (k D σ H q)⟩
theorem PSs.imp {t t' : TS} (h : PSs X rest t) (k : ∀ D σ H, t' D σ H → t D σ H) : PSs X rest t' := ⟨fun pins s σ H D I q => h.run pins s σ H D I (k D σ H q)⟩
theorem pss_non : PSs X [] (rSm Γ W fun ρ S => .next ρ S) := PSs.imp pss_nil fun D σ H ⟨m, S, ρ, st, en, h⟩ => h m H σ .refl st en
theorem pss_more (h1 : PS X st (rSm Γ W f1)) (h2 : PSs X rest (rSm Γ W f2)) : PSs X (st :: rest) (rSm Γ W fun ρ S => (f1 ρ S).bind fun ρ1 S1 => f2 ρ1 S1) :=
  PSs.imp (pss_cons h1 h2) fun D σ H ⟨m, S, ρ, st, en, h⟩ => ⟨m, S, ρ, st, en, h.bind.nxs fun σ H1 ⟨m1, S1, ρ1, _, st1, en1, h1⟩ => ⟨m1, S1, ρ1, st1, en1, h1⟩⟩
theorem ps_ex (he : PE X e (rE Γ W fa)) (hs : swapsWith e none pos.line X.env = pure false) : PS X (.Expr e pos) (rSm Γ W fun ρ S => (fa ρ S).go ρ fun _ S1 => .next ρ S1) :=
  PS.imp (ps_expr he hs) fun D σ H ⟨m, S, ρ, st, en, h⟩ => ⟨m, S, ρ, st, en, (h.go en).imp fun d m1 S1 H1 g st1 h1 v _ => h1 m1 H1 σ .refl st1 (en.grow g)⟩
theorem ps_rt (he : PE X e (rE Γ W fa)) : PS X (.Return (some e) pos) (rSm Γ W fun ρ S => (fa ρ S).go ρ fun d S1 => .ret d S1) :=
  PS.imp (ps_ret he) fun D σ H ⟨m, S, ρ, st, en, h⟩ => ⟨m, S, ρ, st, en, (h.go en).imp fun d m1 S1 H1 g st1 h1 v hv => h1 m1 H1 v .refl st1 hv⟩
theorem ps_rtN : PS X (.Return none pos) (rSm Γ W fun ρ S => .ret .non S) :=
  PS.imp ps_retN fun D σ H ⟨m, S, ρ, st, en, h⟩ => h m H .non .refl st (by simp [Cg.br, Br])
theorem ps_ps : PS X (.Pass pos) (rSm Γ W fun ρ S => .next ρ S) := PS.imp ps_pass fun D σ H ⟨m, S, ρ, st, en, h⟩ => h m H σ .refl st en
/-- target = e -/
theorem tg_ok {t : Tg} {d : D} {v : V} {m : List Addr} {S : Sto} {H : Hp} {ρ : Env} {σ : L2.St} {D : Ends} (st : StOk Γ m S H) (en : EnvOk Γ m H ρ σ) (hv : Γ.br m H d v) (h : SatS Γ W m H (match setTg t d ρ with
    | some ρ' => .next ρ' S
    | none => .bad) D) : rG Γ t v σ H D.nx := by
  cases q : setTg t d ρ with
  | none => rw [q] at h; exact (show False from h).elim
  | some ρ' =>
    rw [q] at h
    exact ⟨Γ.hid, m, S, ρ, d, ρ', st, en, hv, q, fun σ' en' _ => h m H σ' .refl st en'⟩
theorem ps_as {t : Tg} (he : PE X e (rE Γ W fa)) (hg : PG X tg (rG Γ t)) (hs : swapsWithSole [tg] e pos.line X.env = pure false) (hw : swappedStores [tg] e X.env = pure none) (h1 : (assignEach [tg] X.env).map (·.2) = [assign tg X.env]) :
    PS X (.Assign [tg] e pos) (rSm Γ W fun ρ S => (fa ρ S).go ρ fun d S1 => match setTg t d ρ with
    | some ρ' => .next ρ' S1
    | none => .bad) :=
  PS.imp (ps_asg he hg hs hw h1) fun D σ H ⟨m, S, ρ, st, en, h⟩ => ⟨m, S, ρ, st, en, (h.go en).imp fun d m1 S1 H1 g st1 h1 v hv => tg_ok st1 (en.grow g) hv h1⟩
/-- name = [..] -/
theorem ps_asc {i : Nat} {y : Str} {py : Pos} {elt tg iter : Expr} {ifs : List Expr} {scope : Scope} {own : List (Str × Nat)} {cpos : Pos} {fi : Env → Sto → R (List D)} {fc : Env → Sto → R Bool} {fe : Env → Sto → R D} {t : Tg} (mu : Bool) (hc : X.calm = true) (hN : X.N.Nodup) (hy : X.N[i]? = some y) (hyl : X.env.scope.names.lookup y = some .local)
    (hsw : swapsWith (.ListComp elt [⟨tg, iter, ifs, 0⟩] scope cpos) (some (.Name y py)) pos.line X.env = pure true) (hi : PI X tg iter (rIt Γ W fi)) (ok : BlkOk X.N X.env.scope scope own) (hsl : ∀ j, j ∈ t.slots ↔ j ∈ own.map (·.2))
    (hg : ∀ (s : Shared) (H : Hp) (C : Addr) (cl : List (Str × Addr)) (fp : List Addr), PG (X.blk s H scope (compEnvC scope cl C X.env) fp) tg (rG Γ t)) (ht : ∀ (s : Shared) (H : Hp) (C : Addr) (cl : List (Str × Addr)) (fp : List Addr), PTs (X.blk s H scope (compEnvC scope cl C X.env) fp) ifs (exB Γ fc))
    (he : ∀ (s : Shared) (H : Hp) (C : Addr) (cl : List (Str × Addr)) (fp : List Addr), PE (X.blk s H scope (compEnvC scope cl C X.env) fp) elt (exE Γ fe)) (hs : ∀ x, foldedSetIterable iter X.env x = pure x) :
    PS X (.Assign [.Name y py] (.ListComp elt [⟨tg, iter, ifs, 0⟩] scope cpos) pos) (rSm Γ W fun ρ S => (compE mu t fi fc fe ρ S).go ρ fun d S1 => match setTg (.nm i) d ρ with
    | some ρ' => .next ρ' S1
    | none => .bad) := by
  refine PS.imp (ps_setLc hc hN hy hyl hsw hi ok hg ht he hs) fun D σ H ⟨m, S, ρ, st, en, h⟩ => ?_
  refine comp_ok (W := W) mu hsl ⟨m, S, ρ, st, en, (h.go en).imp fun d m1 S1 H1 g st1 h1 v hv => ?_⟩
  exact h1 m1 H1 _ .refl st1 ((en.grow g).set i (BrE.of hv))
theorem ps_asc2 {i : Nat} {y : Str} {py : Pos} {elt tg iter tg1 iter1 : Expr} {ifs ifs1 : List Expr} {scope : Scope} {own : List (Str × Nat)} {cpos : Pos} {fi fi1 : Env → Sto → R (List D)} {fc fc1 : Env → Sto → R Bool} {fe : Env → Sto → R D} {t t1 : Tg} (mu : Bool) (hc : X.calm = true) (hN : X.N.Nodup) (hy : X.N[i]? = some y) (hyl : X.env.scope.names.lookup y = some .local)
    (hsw : swapsWith (.ListComp elt [⟨tg, iter, ifs, 0⟩, ⟨tg1, iter1, ifs1, 0⟩] scope cpos) (some (.Name y py)) pos.line X.env = pure true) (hi : PI X tg iter (rIt Γ W fi)) (ok : BlkOk X.N X.env.scope scope own) (hsl : ∀ j, j ∈ own.map (·.2) ↔ (j ∈ t.slots ∨ j ∈ t1.slots))
    (hg : ∀ (s : Shared) (H : Hp) (C : Addr) (cl : List (Str × Addr)) (fp : List Addr), PG (X.blk s H scope (compEnvC scope cl C X.env) fp) tg (rG Γ t)) (ht : ∀ (s : Shared) (H : Hp) (C : Addr) (cl : List (Str × Addr)) (fp : List Addr), PTs (X.blk s H scope (compEnvC scope cl C X.env) fp) ifs (exB Γ fc))
    (hi1 : ∀ (s : Shared) (H : Hp) (C : Addr) (cl : List (Str × Addr)) (fp : List Addr), PI (X.blk s H scope (compEnvC scope cl C X.env) fp) tg1 iter1 (exI Γ fi1))
    (hg1 : ∀ (s : Shared) (H : Hp) (C : Addr) (cl : List (Str × Addr)) (fp : List Addr), PG (X.blk s H scope (compEnvC scope cl C X.env) fp) tg1 (rG Γ t1)) (ht1 : ∀ (s : Shared) (H : Hp) (C : Addr) (cl : List (Str × Addr)) (fp : List Addr), PTs (X.blk s H scope (compEnvC scope cl C X.env) fp) ifs1 (exB Γ fc1))
    (he : ∀ (s : Shared) (H : Hp) (C : Addr) (cl : List (Str × Addr)) (fp : List Addr), PE (X.blk s H scope (compEnvC scope cl C X.env) fp) elt (exE Γ fe)) (hs : ∀ x, foldedSetIterable iter X.env x = pure x) (hs1 : ∀ env x, foldedSetIterable iter1 env x = pure x) :
    PS X (.Assign [.Name y py] (.ListComp elt [⟨tg, iter, ifs, 0⟩, ⟨tg1, iter1, ifs1, 0⟩] scope cpos) pos) (rSm Γ W fun ρ S => (compE2 mu t fi fc fi1 t1 fc1 fe ρ S).go ρ fun d S1 => match setTg (.nm i) d ρ with
    | some ρ' => .next ρ' S1
    | none => .bad) := by
  refine PS.imp (ps_setLc2 hc hN hy hyl hsw hi ok (fun j hj => (hsl j).mpr (.inr hj)) hg ht hi1 hg1 ht1 he hs hs1) fun D σ H ⟨m, S, ρ, st, en, h⟩ => ?_
  refine comp2_ok (W := W) mu hsl ⟨m, S, ρ, st, en, (h.go en).imp fun d m1 S1 H1 g st1 h1 v hv => ?_⟩
  exact h1 m1 H1 _ .refl st1 ((en.grow g).set i (BrE.of hv))
theorem ps_ascc {i sl : Nat} {y x : Str} {py px : Pos} {elt tg : Expr} {ifs : List Expr} {scope : Scope} {own : List (Str × Nat)} {cpos : Pos} {fc : Env → Sto → R Bool} {fe : Env → Sto → R D} {t : Tg} (hk : Γ.K = X.K) (mu : Bool) (hc : X.calm = true) (hN : X.N.Nodup) (hy : X.N[i]? = some y) (hyl : X.env.scope.names.lookup y = some .local)
    (hsw : swapsWith (.ListComp elt [⟨tg, .Name x px, ifs, 0⟩] scope cpos) (some (.Name y py)) pos.line X.env = pure true) (hi : X.N[sl]? = some x) (hv : Vis X.env.scope x) (hd : (x == ("__debug__" : Str)) = false) (hcd : (x == ("__classdict__" : Str)) = false) (ok : BlkOk X.N X.env.scope scope own) (hsl : ∀ j, j ∈ t.slots ↔ j ∈ own.map (·.2))
    (hg : ∀ (s : Shared) (H : Hp) (C : Addr) (cl : List (Str × Addr)) (fp : List Addr), PG (X.blk s H scope (compEnvC scope cl C X.env) fp) tg (rG Γ t)) (ht : ∀ (s : Shared) (H : Hp) (C : Addr) (cl : List (Str × Addr)) (fp : List Addr), PTs (X.blk s H scope (compEnvC scope cl C X.env) fp) ifs (exB Γ fc))
    (he : ∀ (s : Shared) (H : Hp) (C : Addr) (cl : List (Str × Addr)) (fp : List Addr), PE (X.blk s H scope (compEnvC scope cl C X.env) fp) elt (exE Γ fe)) :
    PS X (.Assign [.Name y py] (.ListComp elt [⟨tg, .Name x px, ifs, 0⟩] scope cpos) pos) (rSm Γ W fun ρ S => (compEc mu t sl fc fe ρ S).go ρ fun d S1 => match setTg (.nm i) d ρ with
    | some ρ' => .next ρ' S1
    | none => .bad) := by
  refine PS.imp (ps_setLc hc hN hy hyl hsw (pi_seq (pe_var hi hv hd hcd)) ok hg ht he (fun _ => rfl)) fun D σ H ⟨m, S, ρ, st, en, h⟩ => ?_
  refine compc_ok (W := W) hk mu hsl ⟨m, S, ρ, st, en, (h.go en).imp fun d m1 S1 H1 g st1 h1 v hv => ?_⟩
  exact h1 m1 H1 _ .refl st1 ((en.grow g).set i (BrE.of hv))
/-- a, b = x, y -/
theorem ps_pr {i j : Nat} {x y : Str} {a b : Expr} {px py pt : Pos} {kt k2 pt2} (hc : X.calm = true) (hN : X.N.Nodup) (hi : X.N[i]? = some x) (hj : X.N[j]? = some y) (hij : i ≠ j) (hx : X.env.scope.names.lookup x = some .local) (hy : X.env.scope.names.lookup y = some .local) (ha : PA X [a, b] (rA Γ W fs))
    (hw : swappedStores [.Tuple [.Name x px, .Name y py] kt pt] (.Tuple [a, b] k2 pt2) X.env = pure (some [x, y])) (hs : swapsWithSole [.Tuple [.Name x px, .Name y py] kt pt] (.Tuple [a, b] k2 pt2) pos.line X.env = pure false) :
    PS X (.Assign [.Tuple [.Name x px, .Name y py] kt pt] (.Tuple [a, b] k2 pt2) pos) (rSm Γ W fun ρ S => (fs ρ S).go ρ fun ds S1 => match setAll [i, j] ds ρ with
    | some ρ' => .next ρ' S1
    | none => .bad) := by
  refine PS.imp (ps_par hc hN hi hj hij hx hy ha hw hs) fun D σ H ⟨m, S, ρ, st, en, h⟩ => ⟨m, S, ρ, st, en, (h.go en).imp fun ds m1 S1 H1 g st1 h1 vs hv => ?_⟩
  match ds, h1, hv with
  | [d1, d2], h1, hv =>
    obtain ⟨v, u, rfl, e1, e2⟩ := brl2 hv
    exact ⟨v, u, rfl, h1 m1 H1 _ .refl st1 (((en.grow g).set i (BrE.of e1)).set j (BrE.of e2))⟩
  | [], h1, _ => exact (show False from h1).elim
  | [d1], h1, _ => exact (show False from h1).elim
  | d1 :: d2 :: d3 :: ds, h1, _ => exact (show False from h1).elim
theorem ps_pr3 {i j l : Nat} {x y z : Str} {a b c : Expr} {px py pz pt : Pos} {kt k2 pt2} (hc : X.calm = true) (hN : X.N.Nodup) (hi : X.N[i]? = some x) (hj : X.N[j]? = some y) (hl : X.N[l]? = some z) (hij : i ≠ j) (hil : i ≠ l) (hjl : j ≠ l) (hx : X.env.scope.names.lookup x = some .local) (hy : X.env.scope.names.lookup y = some .local)
    (hz : X.env.scope.names.lookup z = some .local) (ha : PA X [a, b, c] (rA Γ W fs)) (hw : swappedStores [.Tuple [.Name x px, .Name y py, .Name z pz] kt pt] (.Tuple [a, b, c] k2 pt2) X.env = pure (some [x, y, z])) (hs : swapsWithSole [.Tuple [.Name x px, .Name y py, .Name z pz] kt pt] (.Tuple [a, b, c] k2 pt2) pos.line X.env = pure false) :
    PS X (.Assign [.Tuple [.Name x px, .Name y py, .Name z pz] kt pt] (.Tuple [a, b, c] k2 pt2) pos) (rSm Γ W fun ρ S => (fs ρ S).go ρ fun ds S1 => match setAll [i, j, l] ds ρ with
    | some ρ' => .next ρ' S1
    | none => .bad) := by
  refine PS.imp (ps_par3 hc hN hi hj hl hij hil hjl hx hy hz ha hw hs) fun D σ H ⟨m, S, ρ, st, en, h⟩ => ⟨m, S, ρ, st, en, (h.go en).imp fun ds m1 S1 H1 g st1 h1 vs hv => ?_⟩
  match ds, h1, hv with
  | [d1, d2, d3], h1, hv =>
    simp only [Cg.brl, BrL] at hv
    obtain ⟨v1, r1, rfl, e1, v2, r2, rfl, e2, v3, r3, rfl, e3, rfl⟩ := hv
    exact ⟨v1, v2, v3, rfl, h1 m1 H1 _ .refl st1 ((((en.grow g).set i (BrE.of e1)).set j (BrE.of e2)).set l (BrE.of e3))⟩
  | [], h1, _ => exact (show False from h1).elim
  | [d1], h1, _ => exact (show False from h1).elim
  | [d1, d2], h1, _ => exact (show False from h1).elim
  | d1 :: d2 :: d3 :: d4 :: ds, h1, _ => exact (show False from h1).elim
/-! ### if, for, while -/
theorem ps_iff {c : Expr} {p q : List Stmt} (hc : PT X c (rT Γ W fa)) (h1 : PSs X p (rSm Γ W f1)) (h2 : PSs X q (rSm Γ W f2)) : PS X (.If c p q pos) (rSm Γ W fun ρ S => (fa ρ S).go ρ fun x S1 => match truthy x S1 with
    | some true => f1 ρ S1
    | some false => f2 ρ S1
    | none => .bad) := by
  refine PS.imp (ps_if hc h1 h2) fun D σ H ⟨m, S, ρ, st, en, h⟩ => ⟨m, S, ρ, st, en, ?_⟩
  cases q : fa ρ S with
  | ok x S1 =>
    simp only [q, R.go_ok, R.bind_ok] at h ⊢
    cases t : truthy x S1 with
    | none => simp only [t] at h; exact (show False from h).elim
    | some b =>
      simp only [t] at h
      intro m1 H1 g st1
      cases b with
      | true => exact iteT ⟨m1, S1, ρ, st1, en.grow g, SatS.from g h⟩
      | false => exact iteF ⟨m1, S1, ρ, st1, en.grow g, SatS.from g h⟩
  | exn c w S1 =>
    have h := h.go en
    rw [q] at h
    exact h
  | bad =>
    have h := h.go en
    rw [q] at h
    exact h
end
end Bh

set_option Elab.async false
set_option linter.all false
set_option maxRecDepth 10000
namespace Bh
open PySem PySem.Spec L2 PyProof.Rows
section
variable {Γ : Cg} {X : Cx} {W : WX} {pos : Pos} {fa : Env → Sto → R D} {fi : Env → Sto → R (List D)} {fb : Env → Sto → RS} {tg iter c : Expr} {body : List Stmt}
theorem ps_fr {t : Tg} (hp : PassesOwn (model X.prog X.w) X.A X.env X.xe) (hc : X.calm = true) (hi : PI X tg iter (rIt Γ W fi)) (hg : PG X tg (rG Γ t)) (hb : PSs X body (rSm Γ W fb)) (hs : ∀ x, foldedSetIterable iter X.env x = pure x) :
    PS X (.For tg iter body [] pos) (rSm Γ W fun ρ S => (fi ρ S).go ρ fun ds S1 => forL t fb ds ρ S1) := by
  refine PS.imp (ps_for hp hc hi hg hb hs) fun D σ H ⟨m, S, ρ, st, en, h⟩ => ⟨m, S, ρ, st, en, (h.go en).imp fun ds m1 S1 H1 g1 st1 h1 J hJ => ?_⟩
  have en1 := en.grow g1
  let Iv : Nat → L2.St → Hp → Prop := fun i σ H => ∃ m S ρ, Grow m1 H1 m H ∧ StOk Γ m S H ∧ EnvOk Γ m H ρ σ ∧ SatS Γ W m H (forL t fb (ds.drop i) ρ S) D
  refine ⟨fun i n σ H => n = ds.length - i ∧ i ≤ ds.length ∧ Iv i σ H, ⟨ds.length, rfl, Nat.zero_le _, m1, S1, ρ, .refl, st1, en1, h1⟩, ?_⟩
  rintro i n τ H2 ⟨rfl, hi2, m2, S2, ρ2, g2, st2, en2, h2⟩
  have wk := hJ Γ.hid (fun a ha => .inl ha) i m2 S2 H2 g2.toX st2
  by_cases hlt : i < ds.length
  case neg =>
    left
    have e : i = ds.length := by omega
    subst e
    refine ⟨wk.2 rfl, ?_⟩
    rw [List.drop_length] at h2
    exact h2 m2 H2 τ .refl st2 en2
  right
  obtain ⟨d, hd⟩ : ∃ d, ds[i]? = some d := ⟨ds[i], by simp [hlt]⟩
  obtain ⟨go, yl⟩ := wk.1 d hd
  refine ⟨go, Iv (i + 1), fun σ' H' n' => ⟨ds.length - (i + 1), by omega, rfl, by omega, n'⟩, fun x H3 y => ?_⟩
  obtain ⟨g3, hk3, st3, bx⟩ := yl x H3 y
  have ed : ds.drop i = d :: ds.drop (i + 1) := by
    rw [List.drop_eq_getElem_cons hlt]
    congr 1
    have := List.getElem?_eq_getElem hlt
    rw [hd] at this
    exact (Option.some.inj this).symm
  rw [ed] at h2
  unfold forL at h2
  cases e : setTg t d ρ2 with
  | none =>
    rw [e] at h2
    exact (show False from h2).elim
  | some ρ' =>
    rw [e] at h2
    refine ⟨Γ.hid, m2, S2, ρ2, d, ρ', st3, en2.grow g3, bx, e, fun σ2 en4 ap => ⟨m2, S2, ρ', st3, en4, ?_⟩⟩
    exact (SatS.from g3 h2).bind.nxs fun σ5 H5 ⟨m6, S6, ρ6, g6, st6, en6, h6⟩ => ⟨m6, S6, ρ6, (g2.trans g3).trans g6, st6, en6, h6⟩
theorem ps_wh (wf : Nat) (hp : PassesOwn (model X.prog X.w) X.A X.env X.xe) (hc : PT X c (rT Γ W fa)) (hb : PSs X body (rSm Γ W fb)) : PS X (.While c body [] pos) (rSm Γ W fun ρ S => whileL fa fb wf ρ S) := by
  refine PS.imp (ps_while hp hc hb) fun D σ H ⟨m, S, ρ, st, en, h⟩ => ?_
  refine ⟨fun n σ H => ∃ m S ρ, StOk Γ m S H ∧ EnvOk Γ m H ρ σ ∧ SatS Γ W m H (whileL fa fb n ρ S) D, ⟨wf, m, S, ρ, st, en, h⟩, ?_⟩
  rintro n τ H2 ⟨m2, S2, ρ2, st2, en2, h2⟩
  cases n with
  | zero => exact (show False from h2).elim
  | succ n =>
    unfold whileL at h2
    refine ⟨m2, S2, ρ2, st2, en2, ?_⟩
    cases q : fa ρ2 S2 with
    | ok x S3 =>
      simp only [q, R.go_ok, R.bind_ok] at h2 ⊢
      cases t : truthy x S3 with
      | none => simp only [t] at h2; exact (show False from h2).elim
      | some b =>
        simp only [t] at h2
        intro m3 H3 g st3
        cases b with
        | true =>
          refine iteT ⟨fun σ H => ∃ m S ρ, StOk Γ m S H ∧ EnvOk Γ m H ρ σ ∧ SatS Γ W m H (whileL fa fb n ρ S) D, fun σ' H' h => ⟨n, Nat.lt_succ_self n, h⟩, m3, S3, ρ2, st3, en2.grow g, ?_⟩
          exact (SatS.from g h2).bind.nxs fun σ5 H5 ⟨m6, S6, ρ6, g6, st6, en6, h6⟩ => ⟨m6, S6, ρ6, st6, en6, h6⟩
        | false => exact iteF (h2 m3 H3 τ g st3 (en2.grow g))
    | exn c w S3 =>
      have h := h2.go en2
      rw [q] at h
      exact h
    | bad =>
      have h := h2.go en2
      rw [q] at h
      exact h
theorem ps_frc {t : Tg} {sl : Nat} {x : Str} {p : Pos} (hk : Γ.K = X.K) (hp : PassesOwn (model X.prog X.w) X.A X.env X.xe) (hc : X.calm = true) (hi : X.N[sl]? = some x) (hv : Vis X.env.scope x) (hd : (x == ("__debug__" : Str)) = false) (hcd : (x == ("__classdict__" : Str)) = false) (hg : PG X tg (rG Γ t)) (hb : PSs X body (rSm Γ W fb)) :
    PS X (.For tg (.Name x p) body [] pos) (rSm Γ W fun ρ S => match cellAt sl ρ S with
    | some (r, ds) => forLg r ds t fb ds ρ S
    | none => .bad) := by
  refine PS.imp (ps_for hp hc (pi_seq (pe_var hi hv hd hcd)) hg hb (fun _ => rfl)) fun D σ H1 ⟨m1, S1, ρ, st1, en1, h1⟩ => ?_
  cases ec0 : cellAt sl ρ S1 with
  | none => simp only [ec0] at h1; exact (show False from h1).elim
  | some rd =>
  obtain ⟨r, ds⟩ := rd
  simp only [ec0] at h1
  obtain ⟨c1, c2⟩ := cellAt_some ec0
  obtain ⟨vv, es1, es2⟩ := en1.sl sl (.ref r) c1
  have es2' : ∃ a, m1[r]? = some a ∧ vv = .ref a := by simpa [BrE, Cg.br, Br] using es2
  obtain ⟨a, ha, rfl⟩ := es2'
  obtain ⟨vs0, q1, q2⟩ := st1.lst ha c2
  have hS0 : SqL X.K H1 a vs0 := .inl (.inl q1)
  refine ⟨_, es1, a, rfl, .inl ⟨⟨vs0, hS0⟩, ?_⟩⟩
  let Iv : Nat → L2.St → Hp → Prop := fun i σ H => ∃ m S ρ, Grow m1 H1 m H ∧ StOk Γ m S H ∧ EnvOk Γ m H ρ σ ∧ SatS Γ W m H (forLg r ds t fb (ds.drop i) ρ S) D
  refine ⟨fun i n σ H => n = ds.length - i ∧ i ≤ ds.length ∧ Iv i σ H, ⟨ds.length, rfl, Nat.zero_le _, m1, S1, ρ, .refl, st1, en1, h1⟩, ?_⟩
  rintro i n τ H2 ⟨rfl, hi2, m2, S2, ρ2, g2, st2, en2, h2⟩
  by_cases hgd : S2[r]? = some (.lst ds)
  case neg =>
    have eb : forLg r ds t fb (ds.drop i) ρ2 S2 = .bad := by
      cases ds.drop i with
      | nil => unfold forLg; rw [if_neg hgd]
      | cons _ _ => unfold forLg; rw [if_neg hgd]
    rw [eb] at h2
    exact (show False from h2).elim
  have wk := walk_store (Γ := Γ) (K := X.K) (l' := Γ.hid) ha i m2 S2 H2 g2 st2 hgd
  by_cases hlt : i < ds.length
  case neg =>
    left
    have e : i = ds.length := by omega
    subst e
    refine ⟨wk.2 rfl, ?_⟩
    rw [List.drop_length] at h2
    unfold forLg at h2
    rw [if_pos hgd] at h2
    exact h2 m2 H2 τ .refl st2 en2
  right
  obtain ⟨d, hd⟩ : ∃ d, ds[i]? = some d := ⟨ds[i], by simp [hlt]⟩
  obtain ⟨go, yl⟩ := wk.1 d hd
  refine ⟨go, Iv (i + 1), fun σ' H' n' => ⟨ds.length - (i + 1), by omega, rfl, by omega, n'⟩, fun x H3 y => ?_⟩
  obtain ⟨g3, hk3, st3, bx⟩ := yl x H3 y
  have ed : ds.drop i = d :: ds.drop (i + 1) := by
    rw [List.drop_eq_getElem_cons hlt]
    congr 1
    have := List.getElem?_eq_getElem hlt
    rw [hd] at this
    exact (Option.some.inj this).symm
  rw [ed] at h2
  unfold forLg at h2
  rw [if_pos hgd] at h2
  cases e : setTg t d ρ2 with
  | none =>
    rw [e] at h2
    exact (show False from h2).elim
  | some ρ' =>
    rw [e] at h2
    refine ⟨Γ.hid, m2, S2, ρ2, d, ρ', st3, en2.grow g3, bx, e, fun σ2 en4 ap => ⟨m2, S2, ρ', st3, en4, ?_⟩⟩
    exact (SatS.from g3 h2).bind.nxs fun σ5 H5 ⟨m6, S6, ρ6, g6, st6, en6, h6⟩ => ⟨m6, S6, ρ6, (g2.trans g3).trans g6, st6, en6, h6⟩
end
end Bh

set_option Elab.async false
set_option linter.all false
set_option maxRecDepth 100000
set_option maxHeartbeats 4000000
/-! e.__class__.__name__ of an exception in the making -/
namespace Bh
open PySem PySem.Spec L2 PyProof.Rows
open PySem.W (looks_findIn looks_find looks_subIn looks_typeIn)
section
variable {prog : Program} {w : World} {A : Around} {E : Value → Shared → Prop} {s : Shared} {K : PySem.W.Frag} {x C : Addr} {ox : Obj} {od : Option Obj}
/-- e.__class__ for an instance of an exception class of the program -/
theorem exc_class {expr : Bool} {gt : Option Value} {Q : Value → Shared → Prop} (X : K.In s.heap) (I : PySem.W.InstAt s.heap x ox C od) (hga : PySem.W.findIn K (.ref C) "__getattribute__" = some (some (.builtin "BaseException.__getattribute__"))) (hgt : PySem.W.findIn K (.ref C) "__getattr__" = some gt)
    (hsub : PySem.W.subIn K (.ref C) (.type "BaseException") = some true) (hf : PySem.W.findObj K C od "__class__" = some (.bind (.builtin "getset_descriptor.__get__") (.builtin "object.__class__"))) (hm : PySem.W.mroIn K C (.type "object") = some true)
    (h : Q (.ref C) { s with toks := s.toks + 1 }) : wpAny (model prog w) A (getAttr (.ref x) "__class__" expr) Q E s := by
  obtain ⟨hp, g, d, t, os⟩ := s
  have L0 := I.type (M := model prog w)
  have L1 := looks_findIn (M := model prog w) X hga
  have L2 := looks_findIn (M := model prog w) X hgt
  have L3 := looks_find (M := model prog w) X I hf
  have sub : PySem.W.Looks (model prog w) hp (isInstance (.ref x) (.type "BaseException")) true := L0.andThen (looks_subIn X hsub)
  have hx0 : (expr && onTheHeap (Value.builtin "BaseException.__getattribute__")) = false := by cases expr <;> rfl
  have hx2 : (Value.builtin "BaseException.__getattribute__" == Value.builtin "object.__getattribute__") = false := by decide +kernel
  have hx1 : (onTheHeap (Value.ref C) && Value.builtin "BaseException.__getattribute__" == Value.builtin "object.__getattribute__") = false := by rw [hx2]; rfl
  unfold getAttr getAttrBy
  refine wpAny_bind (wpAny_mkText (wpAny_holding (wpAny_bind (L0.at (wpAny_bind (L1.at ?_))))))
  show wpAny _ _ (if (onTheHeap (Value.ref C) && Value.builtin "BaseException.__getattribute__" == Value.builtin "object.__getattribute__") = true then _ else _) _ _ _
  rw [hx1, if_neg Bool.false_ne_true]
  unfold getAttrByItsOwn hookBefore
  refine wpAny_bind ?_
  rw [if_pos (show onTheHeap (Value.ref C) = true from rfl)]
  refine L2.at ?_
  refine wpAny_bind (wpAny_attempt (wpAny_holding ?_))
  unfold callGetattribute
  rw [hx0, if_neg Bool.false_ne_true]
  unfold boundAndCalled
  rw [PySem.F.excAttr_ValueError.ga.bind (.ref x)]
  refine wpAny_bind (wpAny_pure ?_)
  show wpAny _ _ (call (.builtin "BaseException.__getattribute__") [.ref x, .str "__class__" t]) _ _ _
  refine wpAny_call (codeAny_call_builtin PySem.F.excAttr_ValueError.ga.plain PySem.F.entry_bexc_ga ?_)
  refine @PySem.W.check_slot (model prog w) _ _ ⟨hp, g, d, t + 1, os⟩ "BaseException.__getattribute__" "BaseException" "__getattribute__" (.ref x) [.str "__class__" t] [] _ (by decide +kernel) (by decide +kernel) sub (PySem.F.args_bexc_ga (.ref x) (.str "__class__" t)) ?_
  unfold Builtin.«object.__getattribute__»
  refine wpAny_bind (wpAny_of_eq (a := ((Value.ref x : Value), [Value.str "__class__" t])) (by first | rfl | (simp only [slotArgs]; rfl)) ?_)
  refine wpAny_bind (wpAny_pure (wpAny_bind (L0.at (wpAny_bind (L3.at ?_)))))
  refine wpAny_bind (wpAny_holding (wpAny_call (PySem.W.class_get (s := ⟨hp, g, d, t + 1, os⟩) (ox := ox) (od := od) X I hm ?_)))
  refine wpAny_pure ?_
  show wpAny _ _ (handedOut (.ref C)) _ _ _
  rw [PySem.W.handedOut_of (show PySem.W.handedIn (.ref C) = true from rfl)]
  first | exact wpAny_pure h | exact wpAny_pure (wpAny_pure h)
/-- the name that a class keeps -/
def nmIn (K : PySem.W.Frag) (C : Addr) : Option Value := (K.lookup C).bind fun o => (o.slots[2]?).join
open Builtin Builtin.Getset_descriptor in
theorem clsname_get {R : Result → Shared → Prop} {tp v : Value} (X : K.In s.heap) (ht : PySem.W.typeIn K (.ref C) = some (.type "type")) (hv : nmIn K C = some v) (h : R (.ok (.ret v)) s) :
    codeAny (model prog w) A (.call (.builtin "getset_descriptor.__get__") ⟨[.builtin "type.__name__", .ref C, tp], []⟩) R s := by
  obtain ⟨hh, g, dr, t, os⟩ := s
  have L0 : PySem.W.Looks (model prog w) hh (typeOf (.ref C)) (.type "type") := looks_typeIn X ht
  have L1 : PySem.W.Looks (model prog w) hh (isSubtype (.type "type") (.type "type")) true := PySem.W.Looks.of_pure (by rw [isSubtype_type]; kernel_rfl)
  refine codeAny_call_builtin PySem.W.KF.slot_gs.plain PySem.W.KF.entry_gs (PySem.W.KF.slot_gs.check _ _ _ _ _ _ _ _ PySem.W.ktyn_type (PySem.W.KF.args_gs _ _ _) ?_)
  unfold Builtin.«getset_descriptor.__get__» descrGet
  rw [PySem.W.dga_obj]
  refine wpAny_bind (wpAny_pure ?_)
  unfold descrGetter descrCheckInstance descrNameAndClass isInstance
  simp only [PySem.W.ktyn_owner]
  repeat lk
  refine ⟨Code.quiet_builtin _ (by decide +kernel), codeAny_builtin PySem.W.ktyn_entry ?_⟩
  unfold Builtin.«type.__name__»
  dsimp only
  obtain ⟨o, ho, e⟩ := Option.bind_eq_some_iff.mp hv
  unfold keptObject slotAt
  dsimp only
  refine wpAny_bind (wpAny_bind (wpAny_bind (wpAny_loadPart (X _ _ ho) (wpAny_pure ?_))))
  rw [e]
  exact wpAny_pure (wpAny_pure h)
/-- what the written part says of a class whose instances ask it for its name -/
structure XnC (K : PySem.W.Frag) (C : Addr) : Prop where
  rd : PySem.W.readsIn K C (.type "type") = true
  fd : PySem.W.findCls K (.ref C) (.type "type") "__name__" = some (.get (.builtin "getset_descriptor.__get__") (.builtin "type.__name__") (.ref C) (.type "type"))
  nm : ∃ z t, nmIn K C = some (.str z t)
  c0 : (PySem.W.clsIn K C).isSome = true
  c1 : PySem.W.findIn K (.ref C) "__class__" = some (some (.builtin "object.__class__"))
  c2 : PySem.W.specialIn K (.builtin "object.__class__") "__get__" = some (some (.builtin "getset_descriptor.__get__"))
  c3 : PySem.W.takesIn K (.builtin "object.__class__") = some true
  c4 : PySem.W.mroIn K C (.type "object") = some true
theorem clsname_attr {expr : Bool} {Q : Value → Shared → Prop} {z : Str} {t : Tok} (T : XnC K C) (X : K.In s.heap) (ht : PySem.W.typeIn K (.ref C) = some (.type "type")) (hv : nmIn K C = some (.str z t)) (h : Q (.str z t) { s with toks := s.toks + 1 }) :
    wpAny (model prog w) A (getAttr (.ref C) "__name__" expr) Q E s :=
  PySem.W.cls_bind X T.rd T.fd (wpAny_call (clsname_get (s := { s with toks := s.toks + 1 }) X ht hv (PySem.W.handed_on rfl h)))
end
/-- the reading of o.__class__.__name__, o an exception in the making -/
def tKind (K : PySem.W.Frag) (to : TE) : TE := fun σ H Q => to σ H fun x H1 => ∃ (a C dx : Addr) (fs : List (Str × V)), x = .ref a ∧ OexC K C ∧ XfC K C ∧ XnC K C ∧
  H1 a = some (exo a C (some dx)) ∧ H1 dx = some (exd dx fs) ∧ ∀ z : Str, Q (.str z) H1
theorem pe_kind {X : Cx} {o : Expr} {to : TE} {p1 p2 : Pos} (ho : PE X o to) (hb : attributeBase o "__class__" X.env (eval o X.env) = eval o X.env := by rfl) (hb2 : attributeBase (.Attribute o "__class__" p1) "__name__" X.env (eval (.Attribute o "__class__" p1) X.env) = eval (.Attribute o "__class__" p1) X.env := by rfl) :
    PE X (.Attribute (.Attribute o "__class__" p1) "__name__" p2) (tKind X.K to) := by
  refine ⟨fun pins s σ H Q I h => ?_⟩
  refine attr_of hb2 (attr_of hb (thn (ho.run pins s σ H _ I h) fun u s1 hh => ?_))
  obtain ⟨x, H1, I1, rx, a, C, dx, fs, ex, T, T2, T3, ea, ed, q⟩ := hh
  subst ex
  obtain rfl : u = Value.ref a := rx
  obtain ⟨t1, hget⟩ := exo_at I1.hok ea
  obtain ⟨mA, hns, hr⟩ := exd_at I1.hok ed
  obtain ⟨od, hod, hl⟩ := lookIn_ns hns
  have J : PySem.W.InstAt s1.heap a _ C (some od) := ⟨hget, rfl, rfl, hod⟩
  obtain ⟨z, tk, ez⟩ := T3.nm
  refine exc_class I1.kIn J T2.ga T2.gg T2.exC (PySem.W.findObj_dataE T3.c0 T3.c1 T3.c2 T3.c3) T3.c4 ?_
  · exact clsname_attr T3 I1.kIn T.tyC ez ⟨.str z, H1, (I1.tok _).tok _, ⟨tk, rfl⟩, q z⟩
end Bh

set_option Elab.async false
set_option linter.all false
set_option maxRecDepth 10000
namespace Bh
open PySem PySem.Spec L2 PyProof.Rows
/-! ### the module's exception classes -/
/-- __init__(self, what): self.what = what -/
def spI (C : Addr) : Sp := fun vs H Q E => ∃ a v, vs = [.ref a, v] ∧ H a = some (exo a C none) ∧ ∀ dx fs, H dx = none → dx ≠ a → fs.lookup (("what" : Str)) = some v → Q .non (upd (upd H dx (exd dx fs)) a (exo a C (some dx)))
structure ExOk (M : Md) (c : Nat) (x : Str) : Prop where
  mg : M.mg x = some (.ref (M.cls c))
  T : OexC M.K (M.cls c)
  init : ∃ fI fd ps, PySem.W.findIn M.K (.ref (M.cls c)) "__init__" = some (some (.ref fI)) ∧ PySem.W.typeIn M.K (.ref fI) = some (.type "function") ∧ Binds M.K fd ps [] ∧ FnOk M.P M.w M.K M.mg M.base (L2.CX M.P M.w) 1 fI fd ps (spI (M.cls c))
  xf : XfC M.K (M.cls c)
  wh : PySem.W.findIn M.K (.ref (M.cls c)) "what" = some none
  c0 : (PySem.W.clsIn M.K (M.cls c)).isSome = true
  c1 : PySem.W.findIn M.K (.ref (M.cls c)) "__class__" = some (some (.builtin "object.__class__"))
  c2 : PySem.W.specialIn M.K (.builtin "object.__class__") "__get__" = some (some (.builtin "getset_descriptor.__get__"))
  c3 : PySem.W.takesIn M.K (.builtin "object.__class__") = some true
  c4 : PySem.W.mroIn M.K (M.cls c) (.type "object") = some true
/-- the module's classes: those that sub tells of are its own -/
structure XsOk (M : Md) : Prop where
  own : ∀ (c : Nat) (l : List Bool), M.prg.sub[c]? = some l → ∃ x, M.prg.cls[c]? = some x ∧ ExOk M c x
  nm : ∀ k x, M.prg.cls[k]? = some x → (M.mg x = some (M.clv k) ∨ (M.mg x = none ∧ bootBuiltins x = some (M.clv k) ∧ x ≠ "__name__")) ∧ (x == ("__debug__" : Str)) = false
  rel : ∀ k x, M.prg.cls[k]? = some x → ∃ cv : V, RelV cv (M.clv k) ∧ ∀ u, RelV cv u → u = M.clv k
  exm : ∀ c k b, subP M.prg c k = some b → PySem.W.exmOne M.K (.ref (M.cls c)) (M.clv k) = some b
  isx : ∀ c k b, subP M.prg c k = some b → PySem.W.kitOne M.K (.ref (M.cls c)) (M.clv k) = some b
theorem sub_own {P : Prg} {c k : Nat} {b : Bool} (h : subP P c k = some b) : ∃ l, P.sub[c]? = some l := by
  obtain ⟨l, e, _⟩ := Option.bind_eq_some_iff.mp h
  exact ⟨l, e⟩
section
variable {M : Md} {n : Nat} {th : Thk} {fl : Fl} {sc : Scope} {N : List Str} {Γ : Cg} {X : Cx} {W : WX} {pos p p1 p2 pos2 : Pos} {fa : Env → Sto → R D} {e : Expr} {c : Nat} {x : Str}
/-- raise C(e) -/
theorem ps_rse (g : GX M n th fl sc N X Γ W) (hcm : fl.cm = true) (xs : XsOk M) {l : List Bool} (hc : M.prg.sub[c]? = some l) (hx : M.prg.cls[c]? = some x) (hg : Gl X x) (he : PE X e (rE Γ W fa)) (hst : starEach [e] X.env = [(false, eval e X.env)]) :
    PS X (.Raise (some (.Call (.Name x p) [e] [] pos)) none pos2) (rSm Γ W fun ρ S => if 2 ≤ n then (fa ρ S).go ρ fun w S1 => .exn c w ρ S1 else .bad) := by
  obtain ⟨x', hx', ex⟩ := xs.own c l hc
  rw [hx] at hx'
  cases hx'
  obtain ⟨fI, fd, ps, i1, i2, i3, i4⟩ := ex.init
  by_cases hn : 2 ≤ n
  case neg =>
    refine ⟨fun pins s σ H D I ⟨m, S, ρ, st, en, h⟩ => ?_⟩
    simp only [if_neg hn] at h
    exact (show False from h).elim
  have hT : OexC X.K (M.cls c) := by rw [g.K]; exact ex.T
  have pm := pmk_oex (X := X) (CX := L2.CX M.P M.w) (x := x) (C := M.cls c) (fI := fI) (k := 1) (fd := fd) (ps := ps) (sp := spI (M.cls c)) (ds := []) (dvs := []) (e := e) (es := []) (p := p) (pos := pos) (ta := tCons (rE Γ W fa) tNil) hT (by rw [g.K]; exact i1) (by rw [g.K]; exact i2)
    (by rw [g.prog, g.w, g.K, g.mg, g.base]; exact i4) ((g.cm hcm).2.mono hn) (by rw [g.K]; exact i3) .nil (fun pins σ H s e s' I c => passes_call (W := W) g.tk (fun _ _ _ _ z => False.elim z) pins σ H s e s' I (by rw [g.prog, g.w]; exact c)) hg (by rw [g.mg]; exact ex.mg) (pa_cons he pa_nil (by rw [hst]; rfl)) (xs.nm c x hx).2 (by rw [hst]; rfl) (by rfl)
  refine PS.imp (ps_raise (g.cm hcm).1 g.tk pm) fun D σ H ⟨m, S, ρ, st, en, h⟩ => ?_
  simp only [if_pos hn] at h
  refine ⟨m, S, ρ, st, en, (h.go en).imp fun w m1 S1 H1 gr st1 h1 v hv => ?_⟩
  refine ⟨Nat.le_of_ble_eq_true rfl, fun a ha => ⟨a, v, rfl, upd_same, fun dx fs hdx hne hfs => ⟨rfl, dx, fs, upd_same, ?_, ?_, ?_⟩⟩⟩
  · rw [upd_ne hne, upd_same]
  · rw [upd_ne hne] at hdx
    exact hdx
  · have hd1 : H1 dx = none := by rw [upd_ne hne] at hdx; exact hdx
    have eH : upd (del (upd (upd (upd H1 a (exo a (M.cls c) none)) dx (exd dx fs)) a (exo a (M.cls c) (some dx))) a) dx (.xd fs) = upd H1 dx (.xd fs) := by
      funext b
      by_cases h1 : b = dx
      · rw [h1, upd_same, upd_same]
      · rw [upd_ne h1, upd_ne h1]
        by_cases h2 : b = a
        · rw [h2, del_same, ha]
        · rw [del_ne h2, upd_ne h2, upd_ne h1, upd_ne h2]
    rw [eH]
    obtain ⟨n1, n2⟩ := st1.notIn hd1
    have gw : Grow m1 H1 m1 (upd H1 dx (.xd fs)) := Grow.new hd1
    have z := h1 m1 (upd H1 dx (.xd fs)) σ dx v gw (st1.new hd1) ((en.grow gr).grow gw) ⟨fs, upd_same, hfs⟩ n1 n2 (Br.grow gw _ _ hv)
    rw [g.of.cls] at z
    exact z
end
/-! ### except suites -/
def Cg.ex (Γ : Cg) (a : Addr) (c : Nat) (dx : Addr) : Cg := { Γ with exA := fun a' c' dx' => a' = a ∧ c' = c ∧ dx' = dx }
theorem clean_at {ρ : Env} {i : Nat} {d : D} (e : (clean ρ)[i]? = some (some d)) : ρ[i]? = some (some d) ∧ ∀ c w, d ≠ .exc c w := by
  unfold clean at e
  rw [List.getElem?_map] at e
  obtain ⟨o, e1, e2⟩ := Option.map_eq_some_iff.mp e
  split at e2
  · cases e2
  · rename_i hno
    subst e2
    exact ⟨e1, fun c w z => hno c w (by rw [z])⟩
theorem EnvOk.clean {Γ Γ' : Cg} {m : List Addr} {H : Hp} {ρ : Env} {σ : L2.St} (hK : Γ.K = Γ'.K) (hh : Γ.hid = Γ'.hid) (hl : Γ.lamA = Γ'.lamA) (h0 : Γ.m0 = Γ'.m0) (h1 : Γ.H0 = Γ'.H0) (en : EnvOk Γ m H ρ σ) : EnvOk Γ' m H (clean ρ) σ := by
  refine ⟨by unfold Bh.clean; rw [List.length_map]; exact en.len, fun i d e => ?_⟩
  obtain ⟨e1, e2⟩ := clean_at e
  obtain ⟨v, q1, q2⟩ := en.sl i d e1
  refine ⟨v, q1, ?_⟩
  cases d with
  | exc c w => exact absurd rfl (e2 c w)
  | lam =>
    obtain ⟨a, z1, z2, z3⟩ := q2
    exact ⟨a, z1, by rw [← hl]; exact z2, by rw [← h0, ← h1]; exact z3⟩
  | _ => exact br_re hK hh q2
section
variable {M : Md} {n : Nat} {fl : Fl} {sc : Scope} {N : List Str} {Γ : Cg} {X : Cx} {W : WX} {th : Thk}
/-- where an except suite stands -/
theorem gx_suite (g : GX M n th fl sc N X Γ W) (xs : XsOk M) {a : Addr} {oe : Obj} {pn : List (Addr × Obj)} {c : Nat} {dx : Addr} {l : List Bool} (hc : M.prg.sub[c]? = some l) (hz : Zc (.ref (Γ.cls c)) (some dx) oe) (hf : ∃ vs, oe.data = .fields vs) :
    GX M n noThk ⟨false, false, false, true⟩ sc N (X.suite a ((a, oe) :: pn)) (Γ.ex a c dx) W0 := by
  obtain ⟨xx, hx, ex⟩ := xs.own c l hc
  rw [g.of.cls] at hz
  have hat : ∀ {i : Nat} {m : List Addr} {S : Sto} {ρ : Env} {σ : L2.St} {H : Hp} {Q : VK} {f : Nat → D → R D}, EnvOk (Γ.ex a c dx) m H ρ σ → Sat (Γ.ex a c dx) (fun c d H' => W0 c d σ H') m H (match ρ[i]? with
      | some (some (.exc k w)) => f k w
      | _ => .bad) (PV (Γ.ex a c dx) Q) → ∃ w v, σ[i]? = some (some (.ref a)) ∧ Xd H dx v ∧ Γ.br m H w v ∧ Sat (Γ.ex a c dx) (fun c d H' => W0 c d σ H') m H (f c w) (PV (Γ.ex a c dx) Q) := fun {i m S ρ σ H Q f} en h => by
    split at h
    · rename_i k w e
      obtain ⟨v, e1, a', dx', v', e2, ⟨e3, e4, e5⟩, e6, e7, e8⟩ := en.sl i _ e
      subst e2 e3 e4 e5
      exact ⟨w, v', e1, e6, e8, h⟩
    · exact (show False from h).elim
  refine { prog := g.prog, w := g.w, K := g.K, mg := g.mg, base := g.base, of := ⟨g.of.K, g.of.T, g.of.cls⟩, N := g.N, nd := g.nd, sco := g.sco, cm := fun z => (by cases z), gu := g.gu, un := g.un, tk := LamX.takes0, lm := fun z => (by cases z), ac := fun z => (by cases z), xw := fun _ i x p1 p2 h1 h2 h3 h4 => ?_, xi := fun _ i k x y p p1 p2 pos h1 h2 h3 h4 h5 h6 h7 h8 => ?_ }
  · refine PE.imp (pe_xf (te := tVar i) (by rw [g.K]; exact ex.xf) (by rw [g.K]; exact ex.wh) hz hf (pe_var h1 (by rw [← g.sco] at h2; exact h2) h3 h4)) fun σ H Q ⟨m, S, ρ, st, en, h⟩ => ?_
    obtain ⟨w, v, e1, e2, e3, h⟩ := hat (i := i) (S := S) (f := fun _ w => .ok w S) en h
    obtain ⟨fs, e2, e2l⟩ := e2
    exact ⟨_, e1, rfl, rfl, dx, fs, v, rfl, e2, e2l, h.ok st v e3⟩
  · refine ⟨fun pins s σ H Q I ⟨m, S, ρ, st, en, h⟩ => wpAny_Call_Name_kw (h6.ld I h5 (by decide) ?_)⟩
    obtain ⟨w, v, e1, ⟨fs, e2, e2l⟩, e3, h⟩ := hat (i := i) (S := S) (f := fun q _ => opt ((subP M.prg q k).map .bl) S) en h
    obtain ⟨bd, eb, h⟩ := h.opt
    obtain ⟨b0, eb1, eb2⟩ := Option.map_eq_some_iff.mp eb
    subst eb2
    obtain ⟨sr, hdy⟩ := xs.nm k y h8
    obtain ⟨cv, r1, r2⟩ := xs.rel k y h8
    have hcv : PE (X.suite a ((a, oe) :: pn)) (.Name y p2) (tC cv) := ⟨fun _ _ _ H _ I h => by
      rcases sr with q | ⟨q1, q2, q3⟩
      · exact ld_glob I h7 (by rw [g.mg]; exact q) ⟨cv, H, I, r1, h⟩ hdy
      · exact ld_blt I h7 (by rw [g.mg]; exact q1) q2 ⟨cv, H, I, r1, h⟩ q3 hdy⟩
    have pa := pa_cons (pe_var (pos := p1) h1 (by rw [← g.sco] at h2; exact h2) h3 h4) (pa_cons hcv pa_nil)
    have hq : (tCons (tVar i) (tCons (tC cv) tNil)) σ H fun vs G => vs = [.ref a, cv] ∧ G = H := ⟨_, e1, rfl, rfl⟩
    refine PyProof.Rows.callWith_builtin1 (thn (pa.run pos pins s σ H _ I hq) fun us s1 ⟨vs, G, I1, r, ev, eG⟩ => ?_) (by rfl) (by rfl)
    subst ev eG
    obtain ⟨u1, u2, rfl, q1, q2⟩ := vals2 r
    obtain rfl : u1 = Value.ref a := q1
    have e5 := r2 _ q2
    subst e5
    obtain ⟨hget, _⟩ := I1.pin (a, oe) (List.mem_append.mpr (.inl List.mem_cons_self))
    obtain ⟨vs', hv'⟩ := hf
    have hxd : ObjOk X.prog X.w G s1.heap dx (.xd fs) := I1.hok dx _ e2
    obtain ⟨mA, hns, hr⟩ := hxd
    obtain ⟨od, ho, hl⟩ := lookIn_ns hns
    have J : PySem.W.InstAt s1.heap a oe (M.cls c) (some od) := ⟨hget, hz.1, by unfold PySem.W.notCls; rw [hv'] <;> rfl, by rw [hz.2]; exact ho⟩
    exact PySem.W.kia_one (PySem.W.kitx_exc (K := X.K) (by rw [g.K]; exact ex.c0) (by rw [g.K]; exact ex.xf.ga) (by rw [g.K]; exact ex.xf.gg) (by rw [g.K]; exact ex.xf.exC) (by rw [g.K]; exact ex.c1) (by rw [g.K]; exact ex.c2) (by rw [g.K]; exact ex.c3) (by rw [g.K]; exact ex.c4)) I1.kIn J
      (by rw [g.K]; exact xs.isx c k b0 eb1) (fun z => nomatch z) fun tk => ⟨.bl b0, G, I1.tok tk, rfl, h.ok st _ (by simp [Cg.br, Br])⟩
end
end Bh

set_option Elab.async false
set_option linter.all false
set_option maxRecDepth 10000
namespace Bh
open PySem PySem.Spec L2 PyProof.Rows
section
variable {M : Md} {n : Nat} {fl : Fl} {sc : Scope} {N : List Str} {Γ : Cg} {X : Cx} {W : WX} {th : Thk} {fb : Env → Sto → RS} {body : List Stmt} {pos : Pos}
theorem names_of (g : GX M n th fl sc N X Γ W) (xs : XsOk M) {k : Nat} {x : Str} (hk : M.prg.cls[k]? = some x) (hg : Gl X x) : Names X x (M.clv k) := by
  obtain ⟨h1, h2⟩ := xs.nm k x hk
  exact ⟨hg, h2, by rw [g.mg]; exact h1⟩
/-- what the suite's end means behind it -/
theorem endH_ok {Γ' : Cg} {m : List Addr} {H : Hp} {r : RS} {D : Ends} {j : Nat} (hK : Γ.K = Γ'.K) (hT : Γ.T = Γ'.T) (hC : Γ.cls = Γ'.cls) (hh : Γ.hid = Γ'.hid) (hl : Γ'.lamA = Γ.lamA) (h0 : Γ'.m0 = Γ.m0) (h1 : Γ'.H0 = Γ.H0) (h : SatS Γ W m H (endH j r) D) :
    SatS Γ' W0 m H r { nx := fun σ H => D.nx (σ.set j none) H, rt := D.rt, bk := fun σ H => D.bk (σ.set j none) H, ct := fun σ H => D.ct (σ.set j none) H } := by
  cases r with
  | next ρ S => exact fun m' H' σ g st en => h m' H' (σ.set j none) g (st.re hK.symm hT.symm hh.symm) ((en.unset j none).clean hK.symm hh.symm hl h0 h1)
  | ret d S => exact fun m' H' v g st hv => h m' H' v g (st.re hK.symm hT.symm hh.symm) (br_re hK.symm hh.symm hv)
  | exn c w ρ S => exact h.elim
  | bad => exact h.elim
theorem endN_ok {m : List Addr} {H : Hp} {r : RS} {D : Ends} (h : SatS Γ W m H (endN r) D) : SatS Γ W0 m H r D := by
  cases r with
  | next ρ S => exact h
  | ret d S => exact h
  | exn c w ρ S => exact h.elim
  | bad => exact h.elim
/-- try: .. / except x as nm: .. -/
theorem ps_tya (gs : GS M n th fl sc N X Γ W) (xs : XsOk M) {k j : Nat} {x nm : Str} {b₀ : Stmt} {suite : List Stmt} {np pos' : Pos} {fh : Env → Sto → RS} (hk : M.prg.cls[k]? = some x) (hg : Gl X x) (hi : X.N[j]? = some nm) (hln : X.env.kindOf nm = some .local)
    (hb : ∀ (W' : WX) (pn : List (Addr × Obj)) (xe : Value → Shared → Prop), Takes (X.tr pn xe) W' → PassesOwn (model X.prog X.w) X.A X.env xe → PSs (X.tr pn xe) body (rSm Γ W' fb))
    (hsu : ∀ (a : Addr) (oe : Obj) (pn : List (Addr × Obj)) (c : Nat) (dx : Addr) (l : List Bool), M.prg.sub[c]? = some l → Zc (.ref (Γ.cls c)) (some dx) oe → (∃ vs, oe.data = .fields vs) → PSs (X.suite a ((a, oe) :: pn)) (b₀ :: suite) (rSm (Γ.ex a c dx) W0 fh)) :
    PS X (.Try body [.ExceptHandler (some (.Name x np)) (some nm) (b₀ :: suite) pos'] [] [] pos) (rSm Γ W fun ρ S => tryR (fb ρ S) fun c w ρ1 S1 => match subP M.prg c k with
    | some true => endH j (fh ((clean ρ1).set j (some (.exc c w))) S1)
    | some false => .exn c w ρ1 S1
    | none => .bad) := by
  refine PS.imp (ps_try_as (Wout := W) (tb := fun W' => rSm Γ W' fb) (ts := fun a cls d D σ H => ∃ c dx l, M.prg.sub[c]? = some l ∧ cls = .ref (Γ.cls c) ∧ d = some dx ∧ rSm (Γ.ex a c dx) W0 fh D σ H) gs.st gs.fr gs.x.nd hi hln (names_of gs.x xs hk hg) gs.x.tk hb fun a oe cls d pn hz hf => ⟨fun pins s σ H D I ⟨c, dx, l, h1, h2, h3, h4⟩ => ?_⟩) fun D σ H ⟨m, S, ρ, st, en, h⟩ => ⟨m, S, ρ, st, en, ?_⟩
  · subst h2 h3
    exact (hsu a oe pn c dx l h1 hz hf).run pins s σ H D I h4
  · cases r : fb ρ S with
    | next ρ1 S1 => simp only [r, tryR] at h; exact h
    | ret d S1 => simp only [r, tryR] at h; exact h
    | bad => simp only [r, tryR] at h; exact h
    | exn c w ρ1 S1 =>
      simp only [r, tryR] at h
      intro m1 H1 τ dx v g1 st1 en1 q1 q2 q3 q4
      cases e : subP M.prg c k with
      | none => simp only [e] at h; exact (show False from h).elim
      | some b =>
        simp only [e] at h
        refine ⟨b, by rw [gs.x.of.cls, gs.x.K]; exact xs.exm c k b e, fun hb a ha => ?_, fun hb => ?_⟩
        · subst hb
          obtain ⟨l, hl⟩ := sub_own e
          refine ⟨c, dx, l, hl, rfl, rfl, m1, S1, (clean ρ1).set j (some (.exc c w)), StOk.re (Γ := Γ) (Γ' := Γ.ex a c dx) rfl rfl rfl st1, ?_, ?_⟩
          · have z : EnvOk (Γ.ex a c dx) m1 H1 (clean ρ1) τ := EnvOk.clean (Γ := Γ) (Γ' := Γ.ex a c dx) rfl rfl rfl rfl rfl en1
            exact z.set j ⟨a, dx, v, rfl, ⟨rfl, rfl, rfl⟩, q1, q2, q4⟩
          · exact endH_ok (Γ := Γ) (Γ' := Γ.ex a c dx) rfl rfl rfl rfl rfl rfl rfl (SatS.from g1 h)
        · subst hb
          exact h m1 H1 τ dx v g1 st1 en1 q1 q2 q3 q4
end
end Bh

set_option Elab.async false
set_option linter.all false
set_option maxRecDepth 10000
namespace Bh
open PySem PySem.Spec L2 PyProof.Rows
/-! ### the mini text beside the text -/
def glB (sc : Scope) (x : Str) : Bool := decide (sc.names.lookup x = some .globalImplicit)
def visB (sc : Scope) (x : Str) : Bool := decide (sc.names.lookup x = some .local) || decide (sc.names.lookup x = some .cell) || decide (sc.names.lookup x = some .free)
def locB (sc : Scope) (x : Str) : Bool := decide (sc.names.lookup x = some .local) || decide (sc.names.lookup x = some .cell)
def ndB (x : Str) : Bool := !(x == ("__debug__" : Str)) && !(x == ("__classdict__" : Str))
def noStar : Expr → Bool
  | .Starred .. => false
  | _ => true
def noSlice : Expr → Bool
  | .Slice .. => false
  | _ => true
def noCall : Expr → Bool
  | .Call .. => false
  | _ => true
def noSet : Expr → Bool
  | .Set .. => false
  | _ => true
def noComp : Expr → Bool
  | .ListComp .. => false
  | .SetComp .. => false
  | .DictComp .. => false
  | _ => true
/-- its truth is that of its value -/
def plainB : Expr → Bool
  | .BoolOp .. => false
  | .Compare .. => false
  | .IfExp .. => false
  | .UnaryOp op _ _ => decide (op ≠ .Not)
  | _ => true
def bfN : Bf → Str
  | .len => "len" | .int => "int" | .str => "str" | .abs => "abs" | .max2 => "max" | .min2 => "min" | .tuple => "tuple" | .list => "list" | .listM => "list"
  | .sum => "sum" | .maxL => "max" | .minL => "min" | .sorted => "sorted" | .any => "any" | .all => "all" | .repr => "repr" | .gcd => "gcd" | .isI _ => "isinstance"
def tyNs (t : Ty) : Str := match t with
  | .int => "int" | .bool => "bool" | .str => "str" | .tuple => "tuple" | .list => "list"
def isQ : Bf → Option Ty
  | .isI t => some t
  | _ => none
structure Ck where
  P : Prg
  bl : List Str
  gc : Bool
def nmOf : Expr → Option Str
  | .Name x _ => some x
  | _ => none
def locsB (sc : Scope) (e : Expr) : Bool := match e with
  | .Name x _ => decide (sc.names.lookup x = some .local)
  | _ => false
def tgNames : Tg → Expr → Option (List Str)
  | .nm _, .Name x _ => some [x]
  | .tp _, .Tuple es _ _ => es.mapM nmOf
  | .tp2 _ _, .Tuple [.Name x _, .Tuple es _ _] _ _ => (es.mapM nmOf).map (x :: ·)
  | _, _ => none
def nmB (sc : Scope) (N : List Str) (i : Nat) (x : Str) : Bool := decide (N[i]? = some x) && locB sc x
def nmsB (sc : Scope) (N : List Str) : List Nat → List Expr → Bool
  | [], [] => true
  | i :: is, .Name x _ :: es => nmB sc N i x && nmsB sc N is es
  | _, _ => false
/-- fn: names that are cells may be stored to -/
def tgB (sc : Scope) (N : List Str) (all : Bool) : Tg → Expr → Bool
  | .nm i, .Name x _ => nmB sc N i x && (all || decide (sc.names.lookup x = some .local))
  | .tp is, .Tuple es _ _ => nmsB sc N is es && (all || es.all (locsB sc))
  | .tp2 i is, .Tuple [.Name x _, .Tuple es _ _] _ _ => nmB sc N i x && nmsB sc N is es && (all || (decide (sc.names.lookup x = some .local) && es.all (locsB sc)))
  | _, _ => false
def ownOf (t : Tg) (e : Expr) : List (Str × Nat) := match tgNames t e with
  | some xs => xs.zip t.slots
  | none => []
mutual
def okE (ck : Ck) : Bool → Fl → Scope → List Str → Ex → Expr → Bool
  | t, fl, sc, N, .cmp op a b, e => (match e with
    | .Compare a' [o] [b'] _ => decide (o = cop op) && !behindInMarks (cop op) b' && okE ck false fl sc N a a' && okE ck false fl sc N b b'
    | _ => false)
  | t, fl, sc, N, .chain o1 o2 a b c, e => (match e with
    | .Compare a' [q1, q2] [b', c'] _ => decide (q1 = cop o1) && decide (q2 = cop o2) && !lastMarks [cop o1, cop o2] [b', c'] && okE ck false fl sc N a a' && okE ck false fl sc N b b' && okE ck false fl sc N c c'
    | _ => false)
  | t, fl, sc, N, .not a, e => (match e with
    | .UnaryOp .Not a' _ => okE ck t fl sc N a a'
    | _ => false)
  | t, fl, sc, N, .and_ l, e => (match e with
    | .BoolOp .And es _ => !es.isEmpty && okEs ck t fl sc N l es
    | _ => false)
  | t, fl, sc, N, .or_ l, e => (match e with
    | .BoolOp .Or es _ => !es.isEmpty && okEs ck t fl sc N l es
    | _ => false)
  | t, fl, sc, N, .var i, e => (!t || plainB e) && (match e with
    | .Name x _ => decide (N[i]? = some x) && visB sc x && ndB x
    | _ => false)
  | t, fl, sc, N, .int i, e => (!t || plainB e) && (match e with
    | .Constant (.int j) _ _ => decide (j = i)
    | _ => false)
  | t, fl, sc, N, .bl i, e => (!t || plainB e) && (match e with
    | .Constant (.bool j) _ _ => decide (j = i)
    | _ => false)
  | t, fl, sc, N, .non, e => (!t || plainB e) && (match e with
    | .Constant .none _ _ => true
    | _ => false)
  | t, fl, sc, N, .str i, e => (!t || plainB e) && (match e with
    | .Constant (.str j) _ _ => decide (j = i)
    | _ => false)
  | t, fl, sc, N, .glob g, e => (!t || plainB e) && (match e with
    | .Name x _ => decide ((ck.P.globs[g]?).map (·.1) = some x) && glB sc x && ndB x
    | _ => false)
  | t, fl, sc, N, .bin op a b, e => (!t || plainB e) && (match e with
    | .BinOp a' o b' _ => decide (o = bop op) && okE ck false fl sc N a a' && okE ck false fl sc N b b'
    | _ => false)
  | t, fl, sc, N, .neg a, e => (!t || plainB e) && (match e with
    | .UnaryOp .USub a' _ => okE ck false fl sc N a a'
    | _ => false)
  | t, fl, sc, N, .ife c a b, e => (!t || plainB e) && (match e with
    | .IfExp c' a' b' _ => okE ck true fl sc N c c' && okE ck false fl sc N a a' && okE ck false fl sc N b b'
    | _ => false)
  | t, fl, sc, N, .call f l, e => (!t || plainB e) && (match e with
    | .Call (.Name x _) es [] _ => fl.cm && decide ((ck.P.defs[f]?).map (·.name) = some x) && glB sc x && ndB x && okEs ck false fl sc N l es
    | .Call (.Name x _) [] (k :: kws) _ => fl.cm && decide ((ck.P.defs[f]?).map (·.name) = some x) && glB sc x && ndB x && decide (kws.length ≤ 1) && (k :: kws).all (fun k => k.arg.isSome) && decide ((ck.P.defs[f]?).map (fun d => d.N.take d.np) = some ((k :: kws).filterMap (·.arg))) && okEs ck false fl sc N l ((k :: kws).map (·.value))
    | _ => false)
  | t, fl, sc, N, .callB bf l, e => (!t || plainB e) && (match isQ bf with
    | some ty => (match l, e with
      | .cons a .nil, .Call (.Name x _) [a', .Name y _] [] _ => decide (x = "isinstance") && decide (y = tyNs ty) && decide (x ∈ ck.bl) && decide (y ∈ ck.bl) && glB sc x && glB sc y && noStar a' && okE ck false fl sc N a a'
      | _, _ => false)
    | none => (match e with
      | .Call (.Name x _) es [] _ => fl.cm && decide (x = bfN bf) && ((decide (bf ≠ .gcd) && decide (x ∈ ck.bl)) || (decide (bf = .gcd) && ck.gc)) && glB sc x && !es.isEmpty && okEs ck false fl sc N l es
      | _ => false))
  | t, fl, sc, N, .tup l, e => (!t || plainB e) && (match e with
    | .Tuple es _ _ => decide (es.length ≤ 1000) && okEs ck false fl sc N l es
    | _ => false)
  | t, fl, sc, N, .tupS a l, e => (!t || plainB e) && (match e with
    | .Tuple (.Starred a' _ :: es) _ _ => decide (es.length ≤ 1000) && okE ck false fl sc N a a' && okEs ck false fl sc N l es
    | _ => false)
  | t, fl, sc, N, .lst l, e => (!t || plainB e) && (match e with
    | .List es _ => decide (es.length ≤ 1000) && okEs ck false fl sc N l es
    | _ => false)
  | t, fl, sc, N, .cell l, e => (!t || plainB e) && (match e with
    | .List es _ => decide (es.length ≤ 1000) && okEs ck false fl sc N l es
    | _ => false)
  | t, fl, sc, N, .ix a i, e => (!t || plainB e) && (match e with
    | .Subscript a' i' _ => noSlice i' && okE ck false fl sc N a a' && okE ck false fl sc N i i'
    | _ => false)
  | t, fl, sc, N, .slLo a i, e => (!t || plainB e) && (match e with
    | .Subscript a' (.Slice (some i') none none _) _ => okE ck false fl sc N a a' && okE ck false fl sc N i i'
    | _ => false)
  | t, fl, sc, N, .slHi a i, e => (!t || plainB e) && (match e with
    | .Subscript a' (.Slice none (some i') none _) _ => okE ck false fl sc N a a' && okE ck false fl sc N i i'
    | _ => false)
  | t, fl, sc, N, .slLH a i j, e => (!t || plainB e) && (match e with
    | .Subscript a' (.Slice (some i') (some j') none _) _ => okE ck false fl sc N a a' && okE ck false fl sc N i i' && okE ck false fl sc N j j'
    | _ => false)
  | t, fl, sc, N, .rev a, e => (!t || plainB e) && (match e with
    | .Subscript a' (.Slice none none (some (.UnaryOp .USub (.Constant (.int 1) _ _) _)) _) _ => okE ck false fl sc N a a'
    | _ => false)
  | t, fl, sc, N, .comp mu elt tg it conds, e => (!t || plainB e) && (match e with
    | .ListComp elt' [⟨tg', iter, ifs, 0⟩] scope _ => fl.cm && blkC N sc scope (ownOf tg tg') && decide ((ownOf tg tg').map (·.2) = tg.slots) && tgB (relS scope sc) N false tg tg' && noSet iter && okIt ck fl sc N tg' it iter && okE ck false ⟨fl.cm, fl.lm, false, false⟩ (relS scope sc) N elt elt' && decide (ifs.length ≤ 1) && okEs ck true ⟨fl.cm, fl.lm, false, false⟩ (relS scope sc) N conds ifs
    | _ => false)
  | t, fl, sc, N, .compc mu elt tg i conds, e => (!t || plainB e) && (match e with
    | .ListComp elt' [⟨tg', .Name x _, ifs, 0⟩] scope _ => fl.cm && blkC N sc scope (ownOf tg tg') && decide ((ownOf tg tg').map (·.2) = tg.slots) && tgB (relS scope sc) N false tg tg' && decide (N[i]? = some x) && visB sc x && ndB x && okE ck false ⟨fl.cm, fl.lm, false, false⟩ (relS scope sc) N elt elt' && decide (ifs.length ≤ 1) && okEs ck true ⟨fl.cm, fl.lm, false, false⟩ (relS scope sc) N conds ifs
    | _ => false)
  | t, fl, sc, N, .comp2 mu elt tg it conds tg1 it1 conds1, e => (!t || plainB e) && (match e with
    | .ListComp elt' [⟨tg', iter, ifs, 0⟩, ⟨tg1', iter1, ifs1, 0⟩] scope _ => fl.cm && blkC N sc scope (ownOf tg tg' ++ ownOf tg1 tg1') && (decide ((ownOf tg tg').map (·.2) = tg.slots) && decide ((ownOf tg1 tg1').map (·.2) = tg1.slots)) && (tgB (relS scope sc) N false tg tg' && tgB (relS scope sc) N false tg1 tg1') && (noSet iter && noSet iter1) && okIt ck fl sc N tg' it iter && okIt ck ⟨fl.cm, fl.lm, false, false⟩ (relS scope sc) N tg1' it1 iter1 && okE ck false ⟨fl.cm, fl.lm, false, false⟩ (relS scope sc) N elt elt' && (decide (ifs.length ≤ 1) && decide (ifs1.length ≤ 1)) && okEs ck true ⟨fl.cm, fl.lm, false, false⟩ (relS scope sc) N conds ifs && okEs ck true ⟨fl.cm, fl.lm, false, false⟩ (relS scope sc) N conds1 ifs1
    | _ => false)
  | t, fl, sc, N, .lamcall f b, e => (!t || plainB e) && (match e with
    | .Call (.Name x _) [.Lambda ⟨[], [], none, [], [], none, []⟩ body scope _] [] _ => fl.cm && fl.lm && decide ((ck.P.defs[f]?).map (·.name) = some x) && decide ((ck.P.defs[f]?).map (·.np) = some 1) && glB sc x && ndB x && LamX.lamSB sc scope && okE ck false ⟨true, false, false, false⟩ scope N b body
    | _ => false)
  | t, fl, sc, N, .act i, e => (!t || plainB e) && (match e with
    | .Call (.Name x _) [] [] _ => fl.ac && decide (N[i]? = some x) && visB sc x && ndB x
    | _ => false)
  | t, fl, sc, N, .append a b, e => (!t || plainB e) && (match e with
    | .Call (.Attribute a' nm ap) [b'] [] pos => decide (nm = "append") && noCall a' && (ap.endLine == pos.line) && noStar b' && okE ck false fl sc N a a' && okE ck false fl sc N b b'
    | _ => false)
  | t, fl, sc, N, .what i, e => (!t || plainB e) && (match e with
    | .Attribute (.Name x _) nm _ => decide (nm = "what") && fl.xc && decide (N[i]? = some x) && visB sc x && ndB x
    | _ => false)
  | t, fl, sc, N, .isX i c, e => (!t || plainB e) && (match e with
    | .Call (.Name z _) [.Name x _, .Name y _] [] _ => decide (z = "isinstance") && decide (z ∈ ck.bl) && fl.xc && decide (N[i]? = some x) && visB sc x && ndB x && glB sc z && glB sc y && decide (ck.P.cls[c]? = some y)
    | _ => false)
def okEs (ck : Ck) : Bool → Fl → Scope → List Str → Exs → List Expr → Bool
  | t, fl, sc, N, .nil, es => es.isEmpty
  | t, fl, sc, N, .cons a l, es => (match es with
    | e :: r => noStar e && okE ck t fl sc N a e && okEs ck t fl sc N l r
    | [] => false)
def okIt (ck : Ck) : Fl → Scope → List Str → Expr → It → Expr → Bool
  | fl, sc, N, tg, .seq e, i => okE ck false fl sc N e i
  | fl, sc, N, tg, .range1 a, i => (match i with
    | .Call (.Name x _) [a'] [] _ => decide (x = "range") && decide (x ∈ ck.bl) && glB sc x && noStar a' && okE ck false fl sc N a a'
    | _ => false)
  | fl, sc, N, tg, .range2 a b, i => (match i with
    | .Call (.Name x _) [a', b'] [] _ => decide (x = "range") && decide (x ∈ ck.bl) && glB sc x && noStar a' && noStar b' && okE ck false fl sc N a a' && okE ck false fl sc N b b'
    | _ => false)
  | fl, sc, N, tg, .range3 a b c, i => (match i with
    | .Call (.Name x _) [a', b', c'] [] _ => decide (x = "range") && decide (x ∈ ck.bl) && glB sc x && noStar a' && noStar b' && noStar c' && okE ck false fl sc N a a' && okE ck false fl sc N b b' && okE ck false fl sc N c c'
    | _ => false)
  | fl, sc, N, tg, .enum a, i => (match i with
    | .Call (.Name x _) [a'] [] _ => decide (x = "enumerate") && decide (x ∈ ck.bl) && glB sc x && noStar a' && (match tg with
      | .Tuple .. => true
      | _ => false) && okE ck false fl sc N a a'
    | _ => false)
  | fl, sc, N, tg, .zip2 a b, i => (match i with
    | .Call (.Name x _) [a', b'] [] _ => decide (x = "zip") && decide (x ∈ ck.bl) && glB sc x && noStar a' && noStar b' && (match tg with
      | .Tuple .. => true
      | _ => false) && okE ck false fl sc N a a' && okE ck false fl sc N b b'
    | _ => false)
end
end Bh

set_option Elab.async false
set_option linter.all false
set_option maxRecDepth 10000
namespace Bh
open PySem PySem.Spec L2 PyProof.Rows
structure CkOk (M : Md) (ck : Ck) : Prop where
  P : ck.P = M.prg
  bl : ∀ x ∈ ck.bl, M.mg x = none
  gl : ∀ (g : Nat) (x : Str) (i : Int), M.prg.globs[g]? = some (x, i) → ∃ t, M.mg x = some (.int i t)
  gc : ck.gc = true → M.mg "gcd" = some (.builtin "math.gcd")
theorem boot_bf : ∀ b : Bf, b ≠ .gcd → bootBuiltins (bfN b) = some (bfV b) ∧ bfN b ≠ "__name__" ∧ (bfN b == ("__debug__" : Str)) = false
  | .len, _ => by decide +kernel
  | .int, _ => by decide +kernel
  | .str, _ => by decide +kernel
  | .abs, _ => by decide +kernel
  | .max2, _ => by decide +kernel
  | .min2, _ => by decide +kernel
  | .tuple, _ => by decide +kernel
  | .list, _ => by decide +kernel
  | .listM, _ => by decide +kernel
  | .sum, _ => by decide +kernel
  | .maxL, _ => by decide +kernel
  | .minL, _ => by decide +kernel
  | .sorted, _ => by decide +kernel
  | .any, _ => by decide +kernel
  | .all, _ => by decide +kernel
  | .repr, _ => by decide +kernel
  | .gcd, h => absurd rfl h
  | .isI _, _ => by show bootBuiltins "isinstance" = some (.builtin "isinstance") ∧ ("isinstance" : Str) ≠ "__name__" ∧ (("isinstance" : Str) == ("__debug__" : Str)) = false; decide +kernel
theorem boot_ty : ∀ t : Ty, bootBuiltins (tyNs t) = some (.type (tyN t)) ∧ tyNs t ≠ "__name__" ∧ (tyNs t == ("__debug__" : Str)) = false
  | .int => by decide +kernel
  | .bool => by decide +kernel
  | .str => by decide +kernel
  | .tuple => by decide +kernel
  | .list => by decide +kernel
/-! ### what the checks mean -/
section
variable {X : Cx} {sc : Scope} {x : Str} {e : Expr} {es : List Expr} {env : PySem.Env}
theorem vis_of (h : visB sc x = true) : Vis sc x := by
  unfold visB at h
  simp only [Bool.or_eq_true, decide_eq_true_eq] at h
  rcases h with (h | h) | h
  · exact .inl h
  · exact .inr (.inl h)
  · exact .inr (.inr h)
theorem loc_of (h : locB sc x = true) : L2.Loc sc x := by
  unfold locB at h
  simp only [Bool.or_eq_true, decide_eq_true_eq] at h
  exact h
theorem nd_of (h : ndB x = true) : (x == ("__debug__" : Str)) = false ∧ (x == ("__classdict__" : Str)) = false := by
  unfold ndB at h
  simp only [Bool.and_eq_true, Bool.not_eq_true'] at h
  exact h
theorem gl_of (hs : X.env.scope = sc) (h : glB sc x = true) : Gl X x := by
  subst hs
  have h : List.lookup x X.env.scope.names = some .globalImplicit := of_decide_eq_true h
  exact h
theorem star_of (h : noStar e = true) : starEach (e :: es) env = (false, eval e env) :: starEach es env := by
  cases e <;> first | rfl | cases h
theorem stars_of {pos : Pos} : ∀ {es : List Expr}, es.all noStar = true → (backTo pos (starEach es env)).any (·.1) = false
  | [], _ => rfl
  | e :: es, h => by
    simp only [List.all_cons, Bool.and_eq_true] at h
    rw [star_of h.1]
    show (false || (backTo pos (starEach es env)).any (·.1)) = false
    rw [stars_of h.2]
    rfl
theorem ix_of (h : noSlice e = true) : PlainIx e := by
  cases e <;> first | exact fun _ _ => rfl | cases h
theorem ab_of {a : Str} {whole : Sem Value} (h : noCall e = true) : attributeBase e a env whole = whole := by
  cases e <;> first | rfl | cases h
theorem set_of (h : noSet e = true) (v : Value) : foldedSetIterable e env v = pure v := by
  cases e <;> first | rfl | cases h
theorem tru_of (h : plainB e = true) (whole : Sem Value) : isTrue e env whole = (do let v ← whole; standAt e.pos; holding [v] (PySem.truthy v)) := by
  cases e with
  | UnaryOp op a p => cases op <;> first | rfl | (simp [plainB] at h)
  | BoolOp _ _ _ => cases h
  | Compare _ _ _ _ => cases h
  | IfExp _ _ _ _ => cases h
  | _ => rfl
end
/-- a value, or a test -/
def Snd (Γ : Cg) (W : WX) (t : Bool) (X : Cx) (e : Expr) (f : Env → Sto → R D) : Prop := match t with
  | true => PT X e (rT Γ W f)
  | false => PE X e (rE Γ W f)
theorem snd_of {Γ : Cg} {W : WX} {t : Bool} {X : Cx} {e : Expr} {f : Env → Sto → R D} (hk : Γ.K = X.K) (h : PE X e (rE Γ W f)) (hp : (!t || plainB e) = true) : Snd Γ W t X e f := by
  cases t with
  | false => exact h
  | true => exact pt_val' hk h (tru_of hp)
/-- several at once -/
structure SndL (Γ : Cg) (W : WX) (t : Bool) (X : Cx) (es : List Expr) (fs : Env → Sto → R (List D)) (fa fo : Env → Sto → R D) (fq : Env → Sto → R Bool) : Prop where
  star : es.all noStar = true
  arg : t = false → PA X es (rA Γ W fs)
  kw : t = false → ∀ kws : List Keyword, kws.map (·.value) = es → PK X kws (rA Γ W fs)
  an : es ≠ [] → ∀ pos, (t = false → PE X (.BoolOp .And es pos) (rE Γ W fa)) ∧ (t = true → PW X (.BoolOp .And es pos) (rT Γ W fa))
  tst : t = true → es.length ≤ 1 → PTs X es (rQ Γ W fq)
  or : es ≠ [] → ∀ pos, (t = false → PE X (.BoolOp .Or es pos) (rE Γ W fo)) ∧ (t = true → PW X (.BoolOp .Or es pos) (rT Γ W fo))
theorem evs_len {G : List Int} {sub : Nat → Nat → Option Bool} {C : Nat → Fns} : ∀ {l : Exs} {ck : Ck} {t : Bool} {fl : Fl} {sc : Scope} {N : List Str} {es : List Expr} {n : Nat} {th : Thk} {ρ : Env} {S S' : Sto} {ds : List D}, okEs ck t fl sc N l es = true → evs G sub C l n th ρ S = .ok ds S' → ds.length = es.length
  | .nil, ck, t, fl, sc, N, es, n, th, ρ, S, S', ds, h, e => by
    simp only [okEs, List.isEmpty_iff] at h
    simp only [evs] at e
    cases e
    rw [h]
    rfl
  | .cons a l, ck, t, fl, sc, N, [], n, th, ρ, S, S', ds, h, e => by
    simp [okEs] at h
  | .cons a l, ck, t, fl, sc, N, x :: es, n, th, ρ, S, S', ds, h, e => by
    simp only [okEs, Bool.and_eq_true] at h
    simp only [evs] at e
    cases e1 : ev G sub C a n th ρ S with
    | ok d S1 =>
      simp only [e1, R.bind_ok] at e
      cases e2 : evs G sub C l n th ρ S1 with
      | ok r S2 =>
        simp only [e2, R.bind_ok] at e
        cases e
        simp [evs_len h.2 e2]
      | exn c w S2 => simp only [e2, R.bind_exn] at e; cases e
      | bad => simp only [e2, R.bind_bad] at e; cases e
    | exn c w S1 => simp only [e1, R.bind_exn] at e; cases e
    | bad => simp only [e1, R.bind_bad] at e; cases e
/-! ### conversions -/
section
variable {Γ : Cg} {W : XK} {m : List Addr} {H : Hp} {β : Type} {r : R D}
theorem sat_assoc {α γ : Type} {r : R α} {f : α → Sto → R γ} {k : γ → Sto → R β} {P : β → List Addr → Sto → Hp → Prop} (h : Sat Γ W m H (r.bind fun a S => (f a S).bind k) P) : Sat Γ W m H ((r.bind f).bind k) P := by
  cases r with
  | ok a S => exact h
  | exn c w S => exact h
  | bad => exact h
end
theorem rIt_of {Γ : Cg} {W : WX} {f f' : Env → Sto → R (List D)} {σ : L2.St} {H : Hp} {R : L2.It → Hp → Prop} (h : rIt Γ W f' σ H R) (he : ∀ ρ S, f ρ S = f' ρ S) : rIt Γ W f σ H R := by
  obtain ⟨m, S, ρ, st, en, h⟩ := h
  refine ⟨m, S, ρ, st, en, ?_⟩
  rw [he]
  exact h
theorem PI.cg {Γ : Cg} {X : Cx} {W : WX} {tg e : Expr} {f f' : Env → Sto → R (List D)} (h : PI X tg e (rIt Γ W f)) (he : ∀ ρ S, f ρ S = f' ρ S) : PI X tg e (rIt Γ W f') := by
  have : f = f' := funext fun ρ => funext fun S => he ρ S
  rw [← this]
  exact h
theorem PE.cg {Γ : Cg} {X : Cx} {W : WX} {e : Expr} {f f' : Env → Sto → R D} (h : PE X e (rE Γ W f)) (he : ∀ ρ S, f ρ S = f' ρ S) : PE X e (rE Γ W f') := by
  have : f = f' := funext fun ρ => funext fun S => he ρ S
  rw [← this]
  exact h
theorem R.bind_id {r : R (List D)} {α : Type} {f : List D → Sto → R α} : (r.bind fun a S => R.ok a S).bind f = r.bind f := by cases r <;> rfl
theorem R.bind_assoc {α β γ : Type} {r : R α} {f : α → Sto → R β} {g : β → Sto → R γ} : (r.bind f).bind g = r.bind fun a S => (f a S).bind g := by cases r <;> rfl
end Bh

set_option Elab.async false
set_option linter.all false
set_option maxRecDepth 10000
namespace Bh
open PySem PySem.Spec L2 PyProof.Rows
section
variable {M : Md} {n : Nat} {th : Thk} {fl : Fl} {sc : Scope} {N : List Str} {Γ : Cg} {X : Cx} {W : WX} {lms : Nat → Bool} {ck : Ck}
abbrev GofM (M : Md) : List Int := M.prg.globs.map (·.2)
theorem fn_at (mo : MdOk M lms) (hB : ∀ j, j < n → BodyS M j lms) {f : Nat} {d : Def} (hd : M.prg.defs[f]? = some d) : Fn M n f := by
  cases n with
  | zero => exact fn_zero
  | succ k => exact fn_body mo (hB k (Nat.lt_succ_self k)) hd
theorem src_bl (co : CkOk M ck) (g : GX M n th fl sc N X Γ W) {x : Str} {v : Value} (h : x ∈ ck.bl) (hv : bootBuiltins x = some v) (hn : x ≠ "__name__") : Src X x v := .boot (by rw [g.mg]; exact co.bl x h) hv hn
/-- where a comprehension's block stands -/
theorem gx_blk (g : GX M n th fl sc N X Γ W) (l : List Addr) (s : Shared) (H : Hp) (scope : Scope) (C : Addr) (cl : List (Str × Addr)) (fp : List Addr) : GX M n th ⟨fl.cm, fl.lm, false, false⟩ (relS scope sc) N (X.blk s H scope (compEnvC scope cl C X.env) fp) (Γ.h l) W0 :=
  { prog := g.prog, w := g.w, K := g.K, mg := g.mg, base := g.base, of := ⟨g.of.K, g.of.T, g.of.cls⟩, N := g.N, nd := g.nd, sco := (by rw [← g.sco]; rfl), cm := g.cm, gu := g.gu, un := g.un, tk := LamX.takes0, lm := g.lm, ac := fun z => (by cases z), xw := fun z => (by cases z), xi := fun z => (by cases z) }
/-- where a lambda's body stands -/
theorem gx_lam (g : GX M n th fl sc N X Γ W) {k : Nat} {B : Around} {outer : List PySem.Env} {s : Shared} {H : Hp} {E : XK} {scope : Scope} {f c' : Addr} (hr : Room k (B.deeper (LamX.lamEnv X scope s.heap.objs.size f c'))) (hg : B.guards = some []) :
    GX M k noThk ⟨true, false, false, false⟩ scope N (LamX.lamCx X B outer s H E scope f c') Γ (fun c d _ H' => E c d H') := by
  have un : (B.deeper (LamX.lamEnv X scope s.heap.objs.size f c')).units + 80 < cLine := by
    have := hr.un
    omega
  have tk : Takes (LamX.lamCx X B outer s H E scope f c') (fun c d _ H' => E c d H') := takes_of (E₁ := fun e' s'' => L2.CX X.prog X.w outer H s E e' s'') rfl rfl rfl rfl
  exact { prog := g.prog, w := g.w, K := g.K, mg := g.mg, base := g.base, of := g.of, N := g.N, nd := g.nd, sco := rfl, cm := fun _ => ⟨rfl, hr⟩, gu := hg, un := un, tk := tk, lm := fun z => (by cases z), ac := fun z => (by cases z), xw := fun z => (by cases z), xi := fun z => (by cases z) }
/-! ### targets -/
theorem nms_ok (hN : X.N = N) (hnd : X.N.Nodup) (hs : X.env.scope = sc) : ∀ {is : List Nat} {es : List Expr}, nmsB sc N is es = true → (∀ x, X.fn x = true) ∨ es.all (locsB sc) = true → PGs X es (rGs Γ is) ∧ (assignEach es X.env).length = is.length ∧ (assignEach es X.env).findIdx? (·.1) = none
  | [], [], _, _ => ⟨pgs_non, rfl, rfl⟩
  | i :: is, .Name x p :: es, h, hf => by
    simp only [nmsB, nmB, Bool.and_eq_true, decide_eq_true_eq] at h
    have hf' : (∀ x, X.fn x = true) ∨ es.all (locsB sc) = true := hf.imp id fun z => by
      simp only [List.all_cons, Bool.and_eq_true] at z
      exact z.2
    obtain ⟨h1, h2, h3⟩ := nms_ok hN hnd hs h.2 hf'
    have hx : X.fn x = true ∨ X.env.scope.names.lookup x = some .local := hf.imp (fun z => z x) fun z => by
      simp only [List.all_cons, Bool.and_eq_true, locsB, decide_eq_true_eq] at z
      rw [hs]
      exact z.1
    refine ⟨pgs_one hnd (by rw [hN]; exact h.1.1) (by rw [hs]; exact loc_of h.1.2) hx h1, ?_, ?_⟩
    · show (_ :: assignEach es X.env).length = _
      simp [h2]
    · show List.findIdx? (·.1) ((false, assign (.Name x p) X.env) :: assignEach es X.env) = none
      rw [List.findIdx?_cons]
      simp [h3]
  | [], e :: es, h, _ => by simp [nmsB] at h
  | i :: is, [], h, _ => by simp [nmsB] at h
  | i :: is, .BoolOp .. :: es, h, _ => by simp [nmsB] at h
  | i :: is, .NamedExpr .. :: es, h, _ => by simp [nmsB] at h
  | i :: is, .BinOp .. :: es, h, _ => by simp [nmsB] at h
  | i :: is, .UnaryOp .. :: es, h, _ => by simp [nmsB] at h
  | i :: is, .Lambda .. :: es, h, _ => by simp [nmsB] at h
  | i :: is, .IfExp .. :: es, h, _ => by simp [nmsB] at h
  | i :: is, .Dict .. :: es, h, _ => by simp [nmsB] at h
  | i :: is, .Set .. :: es, h, _ => by simp [nmsB] at h
  | i :: is, .ListComp .. :: es, h, _ => by simp [nmsB] at h
  | i :: is, .SetComp .. :: es, h, _ => by simp [nmsB] at h
  | i :: is, .DictComp .. :: es, h, _ => by simp [nmsB] at h
  | i :: is, .GeneratorExp .. :: es, h, _ => by simp [nmsB] at h
  | i :: is, .Await .. :: es, h, _ => by simp [nmsB] at h
  | i :: is, .Yield .. :: es, h, _ => by simp [nmsB] at h
  | i :: is, .YieldFrom .. :: es, h, _ => by simp [nmsB] at h
  | i :: is, .Compare .. :: es, h, _ => by simp [nmsB] at h
  | i :: is, .Call .. :: es, h, _ => by simp [nmsB] at h
  | i :: is, .FormattedValue .. :: es, h, _ => by simp [nmsB] at h
  | i :: is, .JoinedStr .. :: es, h, _ => by simp [nmsB] at h
  | i :: is, .Constant .. :: es, h, _ => by simp [nmsB] at h
  | i :: is, .Attribute .. :: es, h, _ => by simp [nmsB] at h
  | i :: is, .Subscript .. :: es, h, _ => by simp [nmsB] at h
  | i :: is, .Starred .. :: es, h, _ => by simp [nmsB] at h
  | i :: is, .List .. :: es, h, _ => by simp [nmsB] at h
  | i :: is, .Tuple .. :: es, h, _ => by simp [nmsB] at h
  | i :: is, .Slice .. :: es, h, _ => by simp [nmsB] at h
theorem tg_ok' (hk : Γ.K = X.K) (hN : X.N = N) (hnd : X.N.Nodup) (hs : X.env.scope = sc) (hc : X.calm = true) {all : Bool} {t : Tg} {e : Expr} (h : tgB sc N all t e = true) (hf : all = true → ∀ x, X.fn x = true) : PG X e (rG Γ t) := by
  unfold tgB at h
  split at h
  · simp only [nmB, Bool.and_eq_true, Bool.or_eq_true, decide_eq_true_eq] at h
    exact pg_nm hnd (by rw [hN]; exact h.1.1) (by rw [hs]; exact loc_of h.1.2) (h.2.imp (fun z => hf z _) fun z => by rw [hs]; exact z)
  · simp only [Bool.and_eq_true, Bool.or_eq_true] at h
    obtain ⟨h1, h2, h3⟩ := nms_ok (Γ := Γ) hN hnd hs h.1 (h.2.imp hf id)
    exact pg_tp hk hc h1 h2 h3
  · simp only [nmB, Bool.and_eq_true, Bool.or_eq_true, decide_eq_true_eq] at h
    obtain ⟨⟨h1, h2⟩, h3⟩ := h
    obtain ⟨k1, k2, k3⟩ := nms_ok (Γ := Γ) hN hnd hs h2 (h3.imp hf fun z => z.2)
    exact pg_tp2 hk hc hnd (by rw [hN]; exact h1.1) (by rw [hs]; exact loc_of h1.2) (h3.imp (fun z => hf z _) fun z => by rw [hs]; exact z.1) k1 k2 k3 rfl rfl rfl rfl
  · cases h
theorem bop_dec {o : Operator} {op : BOp} (h : decide (o = bop op) = true) : o = bop op := of_decide_eq_true h
end
end Bh

set_option Elab.async false
set_option linter.all false
set_option maxRecDepth 10000
namespace Bh
open PySem PySem.Spec L2 PyProof.Rows
section
variable {M : Md} {lms : Nat → Bool} {ck : Ck}
theorem evIt1 {G : List Int} {sub : Nat → Nat → Option Bool} {C : Nat → Fns} {a : Ex} {n : Nat} {th : Thk} (ρ : Env) (S : Sto) : ((evs G sub C (.cons a .nil) n th ρ S).bind fun xs S1 => match xs with
      | [.int n] => if within62 n then .ok (rangeD 0 n.toNat) S1 else .bad
      | _ => .bad) = evIt G sub C (.range1 a) n th ρ S := by
  simp only [evs, evIt, R.bind_assoc, R.bind_ok]
  cases ev G sub C a n th ρ S with
  | ok x S1 => simp only [R.bind_ok]; cases x <;> rfl
  | exn c w S1 => rfl
  | bad => rfl
theorem evIt2 {G : List Int} {sub : Nat → Nat → Option Bool} {C : Nat → Fns} {a b : Ex} {n : Nat} {th : Thk} (ρ : Env) (S : Sto) : ((evs G sub C (.cons a (.cons b .nil)) n th ρ S).bind fun xs S1 => match xs with
      | [.int i, .int j] => if within62 i && within62 j then .ok (rangeD i (j - i).toNat) S1 else .bad
      | _ => .bad) = evIt G sub C (.range2 a b) n th ρ S := by
  simp only [evs, evIt, R.bind_assoc, R.bind_ok]
  cases ev G sub C a n th ρ S with
  | ok x S1 =>
    simp only [R.bind_ok]
    cases ev G sub C b n th ρ S1 with
    | ok y S2 => simp only [R.bind_ok]; cases x <;> cases y <;> rfl
    | exn c w S1 => rfl
    | bad => rfl
  | exn c w S1 => rfl
  | bad => rfl
theorem evItE {G : List Int} {sub : Nat → Nat → Option Bool} {C : Nat → Fns} {a : Ex} {n : Nat} {th : Thk} (ρ : Env) (S : Sto) : (evs G sub C (.cons a .nil) n th ρ S).bind enR = evIt G sub C (.enum a) n th ρ S := by
  simp only [evs, evIt, R.bind_assoc, R.bind_ok]
  cases ev G sub C a n th ρ S with
  | ok x S1 => simp only [R.bind_ok]; rfl
  | exn c w S1 => rfl
  | bad => rfl
theorem evIt3 {G : List Int} {sub : Nat → Nat → Option Bool} {C : Nat → Fns} {a b c : Ex} {n : Nat} {th : Thk} (ρ : Env) (S : Sto) : (evs G sub C (.cons a (.cons b (.cons c .nil))) n th ρ S).bind rn3 = evIt G sub C (.range3 a b c) n th ρ S := by
  simp only [evs, evIt, R.bind_assoc, R.bind_ok]
  rfl
theorem evItZ {G : List Int} {sub : Nat → Nat → Option Bool} {C : Nat → Fns} {a b : Ex} {n : Nat} {th : Thk} (ρ : Env) (S : Sto) : (evs G sub C (.cons a (.cons b .nil)) n th ρ S).bind zp2 = evIt G sub C (.zip2 a b) n th ρ S := by
  simp only [evs, evIt, R.bind_assoc, R.bind_ok]
  rfl
theorem pw_one {X : Cx} {e : Expr} {t : TT} {pos : Pos} (h : PT X e t) : PW X (.BoolOp .And [e] pos) t ∧ PW X (.BoolOp .Or [e] pos) t := ⟨pw_and1 h, pw_or1 h⟩
theorem tests_ok {X : Cx} {Γ : Cg} {W : WX} {c : Expr} {fc : Env → Sto → R D} (h : PT X c (rT Γ W fc)) : PTs X [c] (rQ Γ W fun ρ S => (fc ρ S).bind fun x S1 => match truthy x S1 with
    | some true => .ok true S1
    | some false => .ok false S1
    | none => .bad) := pts_one ⟨fun pins s σ H Q I ⟨m, S, ρ, st, en, q⟩ => h.run pins s σ H Q I ⟨m, S, ρ, st, en, by
  cases e : fc ρ S with
  | ok x S1 =>
    simp only [e, R.bind_ok] at q ⊢
    cases t : truthy x S1 with
    | none => simp only [t] at q; exact (show False from q).elim
    | some b =>
      simp only [t] at q
      cases b with
      | true => exact q
      | false => exact q
  | exn c w S1 => simp only [e, R.bind_exn] at q ⊢; exact q
  | bad => simp only [e, R.bind_bad] at q ⊢; exact q⟩⟩
theorem tests_no {X : Cx} {Γ : Cg} {W : WX} : PTs X [] (rQ Γ W fun _ S => .ok true S) := ⟨fun pins s σ H Q I ⟨m, S, ρ, st, en, q⟩ => pts_nil.run pins s σ H Q I (q m H .refl st)⟩
set_option maxHeartbeats 4000000
mutual
theorem okE_ok (mo : MdOk M lms) (co : CkOk M ck) (C : Nat → Fns) : ∀ (m : Ex) (t : Bool) (fl : Fl) (sc : Scope) (N : List Str) (e : Expr), okE ck t fl sc N m e = true → ∀ (X : Cx) (Γ : Cg) (W : WX) (n : Nat) (th : Thk), GX M n th fl sc N X Γ W →
    (∀ j, j ≤ n → C j = callF M.prg M.wf j) → (∀ j, j < n → BodyS M j lms) → Snd Γ W t X e (ev (GofM M) (subP M.prg) C m n th)
  | .var i, t, fl, sc, N, e, h, X, Γ, W, n, th, g, hC, hB => by
    simp only [okE, Bool.and_eq_true] at h
    obtain ⟨hpl, h⟩ := h
    refine snd_of g.hk ?_ hpl
    split at h
    · simp only [Bool.and_eq_true, decide_eq_true_eq] at h
      obtain ⟨h3, h4⟩ := nd_of h.2
      exact pe_slot (by rw [g.N]; exact h.1.1) (by rw [g.sco]; exact vis_of h.1.2) h3 h4
    · cases h
  | .int i, t, fl, sc, N, e, h, X, Γ, W, n, th, g, hC, hB => by
    simp only [okE, Bool.and_eq_true] at h
    obtain ⟨hpl, h⟩ := h
    refine snd_of g.hk ?_ hpl
    split at h
    · have h := of_decide_eq_true h
      subst h
      exact pe_con pe_int fun _ _ => by simp [Cg.br, Br]
    · cases h
  | .bl i, t, fl, sc, N, e, h, X, Γ, W, n, th, g, hC, hB => by
    simp only [okE, Bool.and_eq_true] at h
    obtain ⟨hpl, h⟩ := h
    refine snd_of g.hk ?_ hpl
    split at h
    · have h := of_decide_eq_true h
      subst h
      exact pe_con pe_bl fun _ _ => by simp [Cg.br, Br]
    · cases h
  | .non, t, fl, sc, N, e, h, X, Γ, W, n, th, g, hC, hB => by
    simp only [okE, Bool.and_eq_true] at h
    obtain ⟨hpl, h⟩ := h
    refine snd_of g.hk ?_ hpl
    split at h
    · exact pe_con pe_non fun _ _ => by simp [Cg.br, Br]
    · cases h
  | .str i, t, fl, sc, N, e, h, X, Γ, W, n, th, g, hC, hB => by
    simp only [okE, Bool.and_eq_true] at h
    obtain ⟨hpl, h⟩ := h
    refine snd_of g.hk ?_ hpl
    split at h
    · have h := of_decide_eq_true h
      subst h
      exact pe_con pe_str fun _ _ => by simp [Cg.br, Br]
    · cases h
  | .glob k, t, fl, sc, N, e, h, X, Γ, W, n, th, g, hC, hB => by
    simp only [okE, Bool.and_eq_true] at h
    obtain ⟨hpl, h⟩ := h
    refine snd_of g.hk ?_ hpl
    split at h
    · rename_i x p
      simp only [Bool.and_eq_true, decide_eq_true_eq, co.P] at h
      obtain ⟨⟨h1, h2⟩, h3⟩ := h
      obtain ⟨⟨y, i⟩, e1, e2⟩ := Option.map_eq_some_iff.mp h1
      cases e2
      obtain ⟨tk, h5⟩ := co.gl k _ i e1
      have hp := pe_con (Γ := Γ) (W := W) (d := .int i) (pe_glob (pos := p) (v := .int i) (gl_of g.sco h2) (by rw [g.mg]; exact h5) ⟨tk, rfl⟩ (nd_of h3).1) fun _ _ => by simp [Cg.br, Br]
      refine PE.cg hp fun ρ S => ?_
      have e3 : (GofM M)[k]? = some i := by rw [List.getElem?_map, e1]; rfl
      simp only [ev, e3]
    · cases h
  | .bin op a b, t, fl, sc, N, e, h, X, Γ, W, n, th, g, hC, hB => by
    simp only [okE, Bool.and_eq_true] at h
    obtain ⟨hpl, h⟩ := h
    refine snd_of g.hk ?_ hpl
    split at h
    · simp only [Bool.and_eq_true, decide_eq_true_eq] at h
      obtain ⟨⟨rfl, h1⟩, h2⟩ := h
      exact pe_bin g.hk op (okE_ok mo co C a false fl sc N _ h1 X Γ W n th g hC hB) (okE_ok mo co C b false fl sc N _ h2 X Γ W n th g hC hB)
    · cases h
  | .neg a, t, fl, sc, N, e, h, X, Γ, W, n, th, g, hC, hB => by
    simp only [okE, Bool.and_eq_true] at h
    obtain ⟨hpl, h⟩ := h
    refine snd_of g.hk ?_ hpl
    split at h
    · exact pe_ngt (okE_ok mo co C a false fl sc N _ h X Γ W n th g hC hB)
    · cases h
  | .cmp op a b, t, fl, sc, N, e, h, X, Γ, W, n, th, g, hC, hB => by
    simp only [okE] at h
    split at h
    · simp only [Bool.and_eq_true, decide_eq_true_eq, Bool.not_eq_true'] at h
      obtain ⟨⟨⟨rfl, h0⟩, h1⟩, h2⟩ := h
      have hu : X.A.units + 64 < cLine := by have := g.un; omega
      cases t with
      | false => exact pe_cmpp g.hk hu op h0 (okE_ok mo co C a false fl sc N _ h1 X Γ W n th g hC hB) (okE_ok mo co C b false fl sc N _ h2 X Γ W n th g hC hB)
      | true => exact pt_cmpp g.hk hu op h0 (okE_ok mo co C a false fl sc N _ h1 X Γ W n th g hC hB) (okE_ok mo co C b false fl sc N _ h2 X Γ W n th g hC hB)
    · cases h
  | .chain o1 o2 a b c, t, fl, sc, N, e, h, X, Γ, W, n, th, g, hC, hB => by
    simp only [okE] at h
    split at h
    · simp only [Bool.and_eq_true, decide_eq_true_eq, Bool.not_eq_true'] at h
      obtain ⟨⟨⟨⟨⟨rfl, rfl⟩, h0⟩, h1⟩, h2⟩, h3⟩ := h
      have hu : X.A.units + 64 < cLine := by have := g.un; omega
      cases t with
      | false => exact pe_chainn g.hk hu o1 o2 h0 (okE_ok mo co C a false fl sc N _ h1 X Γ W n th g hC hB) (okE_ok mo co C b false fl sc N _ h2 X Γ W n th g hC hB) (okE_ok mo co C c false fl sc N _ h3 X Γ W n th g hC hB)
      | true => exact pt_chainn g.hk hu o1 o2 h0 (okE_ok mo co C a false fl sc N _ h1 X Γ W n th g hC hB) (okE_ok mo co C b false fl sc N _ h2 X Γ W n th g hC hB) (okE_ok mo co C c false fl sc N _ h3 X Γ W n th g hC hB)
    · cases h
  | .not a, t, fl, sc, N, e, h, X, Γ, W, n, th, g, hC, hB => by
    simp only [okE] at h
    split at h
    · have ih := okE_ok mo co C a t fl sc N _ h X Γ W n th g hC hB
      cases t with
      | false => exact pe_nott g.hk ih
      | true => exact pt_nott ih
    · cases h
  | .and_ l, t, fl, sc, N, e, h, X, Γ, W, n, th, g, hC, hB => by
    simp only [okE] at h
    split at h
    · rename_i es pos
      simp only [Bool.and_eq_true, Bool.not_eq_true', List.isEmpty_eq_false_iff] at h
      have ih := (okEs_ok mo co C l t fl sc N _ h.2 X Γ W n th g hC hB).an h.1 pos
      cases t with
      | false => exact ih.1 rfl
      | true => exact (ih.2 rfl).pt
    · cases h
  | .or_ l, t, fl, sc, N, e, h, X, Γ, W, n, th, g, hC, hB => by
    simp only [okE] at h
    split at h
    · rename_i es pos
      simp only [Bool.and_eq_true, Bool.not_eq_true', List.isEmpty_eq_false_iff] at h
      have ih := (okEs_ok mo co C l t fl sc N _ h.2 X Γ W n th g hC hB).or h.1 pos
      cases t with
      | false => exact ih.1 rfl
      | true => exact (ih.2 rfl).pt
    · cases h
  | .ife c a b, t, fl, sc, N, e, h, X, Γ, W, n, th, g, hC, hB => by
    simp only [okE, Bool.and_eq_true] at h
    obtain ⟨hpl, h⟩ := h
    refine snd_of g.hk ?_ hpl
    split at h
    · simp only [Bool.and_eq_true] at h
      obtain ⟨⟨h0, h1⟩, h2⟩ := h
      exact pe_iff (okE_ok mo co C c true fl sc N _ h0 X Γ W n th g hC hB) (okE_ok mo co C a false fl sc N _ h1 X Γ W n th g hC hB) (okE_ok mo co C b false fl sc N _ h2 X Γ W n th g hC hB)
    · cases h
  | .call f l, t, fl, sc, N, e, h, X, Γ, W, n, th, g, hC, hB => by
    simp only [okE, Bool.and_eq_true] at h
    obtain ⟨hpl, h⟩ := h
    refine snd_of g.hk ?_ hpl
    split at h
    · rename_i x p es pos
      simp only [Bool.and_eq_true, decide_eq_true_eq, co.P] at h
      obtain ⟨⟨⟨⟨h0, h1⟩, h2⟩, h3⟩, h4⟩ := h
      obtain ⟨d, e1, e2⟩ := Option.map_eq_some_iff.mp h1
      have ih := okEs_ok mo co C l false fl sc N _ h4 X Γ W n th g hC hB
      have ok := mo.ok f d e1
      have fn := fn_at mo hB e1
      have hc := hC n (Nat.le_refl _)
      cases es with
      | nil =>
        cases l with
        | nil =>
          refine PE.cg (pe_fn0 g e1 ok fn h0 e2.symm (gl_of g.sco h2) (nd_of h3).1) fun ρ S => ?_
          simp only [ev, evs, R.bind_ok, hc]
        | cons a l => simp [okEs] at h4
      | cons a es =>
        have st := ih.star
        simp only [List.all_cons, Bool.and_eq_true] at st
        refine PE.cg (pe_fn g e1 ok fn h0 e2.symm (gl_of g.sco h2) (nd_of h3).1 (ih.arg rfl) (star_of st.1) (stars_of st.2)) fun ρ S => ?_
        simp only [ev, hc]
    · rename_i x p k kws pos
      simp only [Bool.and_eq_true, decide_eq_true_eq, co.P] at h
      obtain ⟨⟨⟨⟨⟨⟨⟨h0, h1⟩, h2⟩, h3⟩, h5⟩, h6⟩, h7⟩, h4⟩ := h
      obtain ⟨d, e1, e2⟩ := Option.map_eq_some_iff.mp h1
      have ih := okEs_ok mo co C l false fl sc N _ h4 X Γ W n th g hC hB
      have ok := mo.ok f d e1
      have fn := fn_at mo hB e1
      have hc := hC n (Nat.le_refl _)
      rw [e1] at h7
      have h7' : d.N.take d.np = (k :: kws).filterMap (·.arg) := Option.some.inj h7
      have hps : (k :: kws).filterMap (·.arg) = (M.fds f).ps := by
        rw [← h7', ok.dN, ok.np]
        exact ok.sc.pre
      refine PE.cg (pe_fnK g e1 ok fn h0 e2.symm (gl_of g.sco h2) (nd_of h3).1 (ih.kw rfl (k :: kws) rfl) h6 hps (by simp only [List.length_cons]; omega) fun ρ S l' S' e => ?_) fun ρ S => ?_
      · rw [evs_len h4 e, List.length_map]
      · simp only [ev, hc]
    · cases h
  | .callB bf l, t, fl, sc, N, e, h, X, Γ, W, n, th, g, hC, hB => by
    unfold okE at h
    rw [Bool.and_eq_true] at h
    obtain ⟨hpl, h⟩ := h
    refine snd_of g.hk ?_ hpl
    cases hq : isQ bf with
    | some ty =>
      have eb : bf = .isI ty := by
        cases bf <;> first | cases hq | skip
        rfl
      subst eb
      rw [hq] at h
      dsimp only at h
      split at h
      · rename_i a x p a' y p1 pos
        simp only [Bool.and_eq_true, decide_eq_true_eq] at h
        obtain ⟨⟨⟨⟨⟨⟨⟨rfl, rfl⟩, h2⟩, h3⟩, h4⟩, h5⟩, h6⟩, h7⟩ := h
        have ih := okE_ok mo co C a false fl sc N _ h7 X Γ W n th g hC hB
        obtain ⟨b1, b2, b3⟩ := boot_bf (.isI ty) (by intro z; cases z)
        obtain ⟨t1, t2, t3⟩ := boot_ty ty
        refine PE.cg (pe_isi g.hk (gl_of g.sco h4) (src_bl co g h2 b1 b2) b3 (gl_of g.sco h5) (src_bl co g h3 t1 t2) t3 ih (star_of h6) (stars_of rfl)) fun ρ S => ?_
        simp only [ev, evs, R.bind_assoc, R.bind_ok]
        cases ev (GofM M) (subP M.prg) C a n th ρ S with
        | ok x S1 => simp only [R.bind_ok]; rfl
        | exn c w S1 => rfl
        | bad => rfl
      · cases h
    | none =>
      have hb : ∀ t, bf ≠ .isI t := fun t z => by rw [z] at hq; cases hq
      rw [hq] at h
      dsimp only at h
      split at h
      · rename_i x p es pos
        simp only [Bool.and_eq_true, decide_eq_true_eq, Bool.or_eq_true, Bool.not_eq_true', List.isEmpty_eq_false_iff, ne_eq] at h
        obtain ⟨⟨⟨⟨⟨h0, rfl⟩, h1⟩, h2⟩, h3⟩, h4⟩ := h
        have ih := okEs_ok mo co C l false fl sc N _ h4 X Γ W n th g hC hB
        have sr : Src X (bfN bf) (bfV bf) ∧ (bfN bf == ("__debug__" : Str)) = false := by
          by_cases hg : bf = .gcd
          · subst hg
            rcases h1 with h1 | h1
            · exact absurd rfl h1.1
            · exact ⟨.glob (by rw [g.mg]; exact co.gc h1.2), by decide⟩
          · obtain ⟨b1, b2, b3⟩ := boot_bf bf hg
            rcases h1 with h1 | h1
            · exact ⟨src_bl co g h1.2 b1 b2, b3⟩
            · exact absurd h1.1 hg
        cases es with
        | nil => exact absurd rfl h3
        | cons a es =>
          have st := ih.star
          simp only [List.all_cons, Bool.and_eq_true] at st
          exact pe_bf bf hb g.hk (g.cm h0).1 g.gu g.un (gl_of g.sco h2) sr.1 sr.2 (ih.arg rfl) (star_of st.1) (stars_of st.2)
      · cases h
  | .tup l, t, fl, sc, N, e, h, X, Γ, W, n, th, g, hC, hB => by
    simp only [okE, Bool.and_eq_true] at h
    obtain ⟨hpl, h⟩ := h
    refine snd_of g.hk ?_ hpl
    split at h
    · simp only [Bool.and_eq_true, decide_eq_true_eq] at h
      exact pe_tupp h.1 (fun ρ S l S' e => evs_len h.2 e) ((okEs_ok mo co C l false fl sc N _ h.2 X Γ W n th g hC hB).arg rfl)
    · cases h
  | .tupS a l, t, fl, sc, N, e, h, X, Γ, W, n, th, g, hC, hB => by
    simp only [okE, Bool.and_eq_true] at h
    obtain ⟨hpl, h⟩ := h
    refine snd_of g.hk ?_ hpl
    split at h
    · simp only [Bool.and_eq_true, decide_eq_true_eq] at h
      obtain ⟨⟨h0, h1⟩, h2⟩ := h
      exact pe_tupS g.hk h0 (fun ρ S l S' e => evs_len h2 e) (okE_ok mo co C a false fl sc N _ h1 X Γ W n th g hC hB) ((okEs_ok mo co C l false fl sc N _ h2 X Γ W n th g hC hB).arg rfl)
    · cases h
  | .lst l, t, fl, sc, N, e, h, X, Γ, W, n, th, g, hC, hB => by
    simp only [okE, Bool.and_eq_true] at h
    obtain ⟨hpl, h⟩ := h
    refine snd_of g.hk ?_ hpl
    split at h
    · simp only [Bool.and_eq_true, decide_eq_true_eq] at h
      exact pe_lstt h.1 (fun ρ S l S' e => evs_len h.2 e) ((okEs_ok mo co C l false fl sc N _ h.2 X Γ W n th g hC hB).arg rfl)
    · cases h
  | .cell l, t, fl, sc, N, e, h, X, Γ, W, n, th, g, hC, hB => by
    simp only [okE, Bool.and_eq_true] at h
    obtain ⟨hpl, h⟩ := h
    refine snd_of g.hk ?_ hpl
    split at h
    · simp only [Bool.and_eq_true, decide_eq_true_eq] at h
      exact pe_celll h.1 (fun ρ S l S' e => evs_len h.2 e) ((okEs_ok mo co C l false fl sc N _ h.2 X Γ W n th g hC hB).arg rfl)
    · cases h
  | .ix a i, t, fl, sc, N, e, h, X, Γ, W, n, th, g, hC, hB => by
    simp only [okE, Bool.and_eq_true] at h
    obtain ⟨hpl, h⟩ := h
    refine snd_of g.hk ?_ hpl
    split at h
    · simp only [Bool.and_eq_true] at h
      obtain ⟨⟨h0, h1⟩, h2⟩ := h
      exact pe_ixx g.hk (okE_ok mo co C a false fl sc N _ h1 X Γ W n th g hC hB) (okE_ok mo co C i false fl sc N _ h2 X Γ W n th g hC hB) (ix_of h0)
    · cases h
  | .slLo a i, t, fl, sc, N, e, h, X, Γ, W, n, th, g, hC, hB => by
    simp only [okE, Bool.and_eq_true] at h
    obtain ⟨hpl, h⟩ := h
    refine snd_of g.hk ?_ hpl
    split at h
    · simp only [Bool.and_eq_true] at h
      exact pe_slLoo g.hk (okE_ok mo co C a false fl sc N _ h.1 X Γ W n th g hC hB) (okE_ok mo co C i false fl sc N _ h.2 X Γ W n th g hC hB)
    · cases h
  | .slHi a i, t, fl, sc, N, e, h, X, Γ, W, n, th, g, hC, hB => by
    simp only [okE, Bool.and_eq_true] at h
    obtain ⟨hpl, h⟩ := h
    refine snd_of g.hk ?_ hpl
    split at h
    · simp only [Bool.and_eq_true] at h
      exact pe_slHii g.hk (okE_ok mo co C a false fl sc N _ h.1 X Γ W n th g hC hB) (okE_ok mo co C i false fl sc N _ h.2 X Γ W n th g hC hB)
    · cases h
  | .slLH a i j, t, fl, sc, N, e, h, X, Γ, W, n, th, g, hC, hB => by
    simp only [okE, Bool.and_eq_true] at h
    obtain ⟨hpl, h⟩ := h
    refine snd_of g.hk ?_ hpl
    split at h
    · simp only [Bool.and_eq_true] at h
      exact pe_slLHH g.hk (okE_ok mo co C a false fl sc N _ h.1.1 X Γ W n th g hC hB) (okE_ok mo co C i false fl sc N _ h.1.2 X Γ W n th g hC hB) (okE_ok mo co C j false fl sc N _ h.2 X Γ W n th g hC hB)
    · cases h
  | .rev a, t, fl, sc, N, e, h, X, Γ, W, n, th, g, hC, hB => by
    simp only [okE, Bool.and_eq_true] at h
    obtain ⟨hpl, h⟩ := h
    refine snd_of g.hk ?_ hpl
    split at h
    · exact pe_backk g.hk (okE_ok mo co C a false fl sc N _ h X Γ W n th g hC hB)
    · cases h
  | .comp mu elt tg it conds, t, fl, sc, N, e, h, X, Γ, W, n, th, g, hC, hB => by
    unfold okE at h
    rw [Bool.and_eq_true] at h
    obtain ⟨hpl, h⟩ := h
    refine snd_of g.hk ?_ hpl
    split at h
    · rename_i elt' tg' iter ifs scope pos
      simp only [Bool.and_eq_true, decide_eq_true_eq] at h
      obtain ⟨⟨⟨⟨⟨⟨⟨⟨h0, h1⟩, h2⟩, h3⟩, h4⟩, h5⟩, h6⟩, h7⟩, h8⟩ := h
      have hi := okIt_ok mo co C it fl sc N tg' iter h5 X Γ W n th g hC hB
      have blk : BlkOk X.N X.env.scope scope (ownOf tg tg') := by rw [g.N, g.sco]; exact blkOk_by h1
      have hg : ∀ (s : Shared) (H : Hp) (C : Addr) (cl : List (Str × Addr)) (fp : List Addr), PG (X.blk s H scope (compEnvC scope cl C X.env) fp) tg' (rG Γ tg) := fun s H C' cl fp => tg_ok' (X := X.blk s H scope (compEnvC scope cl C' X.env) fp) (N := N) (sc := relS scope sc) g.hk g.N g.nd (gx_blk g [] s H scope C' cl fp).sco (g.cm h0).1 h3 (fun z => by cases z)
      have he : ∀ (s : Shared) (H : Hp) (C' : Addr) (cl : List (Str × Addr)) (fp : List Addr), PE (X.blk s H scope (compEnvC scope cl C' X.env) fp) elt' (exE Γ (ev (GofM M) (subP M.prg) C elt n th)) := fun s H C' cl fp => ⟨fun pins s' σ H' Q I ⟨l, hq⟩ => (show PE _ _ _ from okE_ok mo co C elt false _ _ N elt' h6 _ (Γ.h l) W0 n th (gx_blk g l s H scope C' cl fp) hC hB).run pins s' σ H' Q I hq⟩
      have ht : ∀ (s : Shared) (H : Hp) (C' : Addr) (cl : List (Str × Addr)) (fp : List Addr), PTs (X.blk s H scope (compEnvC scope cl C' X.env) fp) ifs (exB Γ (evAll (GofM M) (subP M.prg) C conds n th)) := fun s H C' cl fp => by
        exact ⟨fun pins s' σ H' Q I ⟨l, hq⟩ => ((okEs_ok mo co C conds true _ _ N ifs h8 _ (Γ.h l) W0 n th (gx_blk g l s H scope C' cl fp) hC hB).tst rfl h7).run pins s' σ H' Q I hq⟩
      refine PE.cg (pe_comp mu (g.cm h0).1 g.nd hi blk (fun j => by rw [h2]) hg ht he (set_of h4)) fun ρ S => ?_
      simp only [ev]
      rfl
    · cases h
  | .compc mu elt tg i conds, t, fl, sc, N, e, h, X, Γ, W, n, th, g, hC, hB => by
    unfold okE at h
    rw [Bool.and_eq_true] at h
    obtain ⟨hpl, h⟩ := h
    refine snd_of g.hk ?_ hpl
    split at h
    · rename_i elt' tg' x px ifs scope pos
      simp only [Bool.and_eq_true, decide_eq_true_eq] at h
      obtain ⟨⟨⟨⟨⟨⟨⟨⟨⟨h0, h1⟩, h2⟩, h3⟩, h4⟩, h4b⟩, h5⟩, h6⟩, h7⟩, h8⟩ := h
      obtain ⟨n1, n2⟩ := nd_of h5
      have blk : BlkOk X.N X.env.scope scope (ownOf tg tg') := by rw [g.N, g.sco]; exact blkOk_by h1
      have hg : ∀ (s : Shared) (H : Hp) (C : Addr) (cl : List (Str × Addr)) (fp : List Addr), PG (X.blk s H scope (compEnvC scope cl C X.env) fp) tg' (rG Γ tg) := fun s H C' cl fp => tg_ok' (X := X.blk s H scope (compEnvC scope cl C' X.env) fp) (N := N) (sc := relS scope sc) g.hk g.N g.nd (gx_blk g [] s H scope C' cl fp).sco (g.cm h0).1 h3 (fun z => by cases z)
      have he : ∀ (s : Shared) (H : Hp) (C' : Addr) (cl : List (Str × Addr)) (fp : List Addr), PE (X.blk s H scope (compEnvC scope cl C' X.env) fp) elt' (exE Γ (ev (GofM M) (subP M.prg) C elt n th)) := fun s H C' cl fp => ⟨fun pins s' σ H' Q I ⟨l, hq⟩ => (show PE _ _ _ from okE_ok mo co C elt false _ _ N elt' h6 _ (Γ.h l) W0 n th (gx_blk g l s H scope C' cl fp) hC hB).run pins s' σ H' Q I hq⟩
      have ht : ∀ (s : Shared) (H : Hp) (C' : Addr) (cl : List (Str × Addr)) (fp : List Addr), PTs (X.blk s H scope (compEnvC scope cl C' X.env) fp) ifs (exB Γ (evAll (GofM M) (subP M.prg) C conds n th)) := fun s H C' cl fp => by
        exact ⟨fun pins s' σ H' Q I ⟨l, hq⟩ => ((okEs_ok mo co C conds true _ _ N ifs h8 _ (Γ.h l) W0 n th (gx_blk g l s H scope C' cl fp) hC hB).tst rfl h7).run pins s' σ H' Q I hq⟩
      refine PE.cg (pe_compc g.hk mu (g.cm h0).1 g.nd (by rw [g.N]; exact h4) (by rw [g.sco]; exact vis_of h4b) n1 n2 blk (fun j => by rw [h2]) hg ht he) fun ρ S => ?_
      simp only [ev]
      rfl
    · cases h
  | .comp2 mu elt tg it conds tg1 it1 conds1, t, fl, sc, N, e, h, X, Γ, W, n, th, g, hC, hB => by
    unfold okE at h
    rw [Bool.and_eq_true] at h
    obtain ⟨hpl, h⟩ := h
    refine snd_of g.hk ?_ hpl
    split at h
    · rename_i elt' tg' iter ifs tg1' iter1 ifs1 scope pos
      simp only [Bool.and_eq_true, decide_eq_true_eq] at h
      obtain ⟨⟨⟨⟨⟨⟨⟨⟨⟨⟨h0, h1⟩, h2, h2b⟩, h3, h3b⟩, h4, h4b⟩, h5⟩, h5b⟩, h6⟩, h7, h7b⟩, h8⟩, h9⟩ := h
      have hi := okIt_ok mo co C it fl sc N tg' iter h5 X Γ W n th g hC hB
      have blk : BlkOk X.N X.env.scope scope (ownOf tg tg' ++ ownOf tg1 tg1') := by rw [g.N, g.sco]; exact blkOk_by h1
      have hgg : ∀ {tq : Tg} {te : Expr}, tgB (relS scope sc) N false tq te = true → ∀ (s : Shared) (H : Hp) (C : Addr) (cl : List (Str × Addr)) (fp : List Addr), PG (X.blk s H scope (compEnvC scope cl C X.env) fp) te (rG Γ tq) := fun {tq te} hq s H C' cl fp => tg_ok' (X := X.blk s H scope (compEnvC scope cl C' X.env) fp) (N := N) (sc := relS scope sc) g.hk g.N g.nd (gx_blk g [] s H scope C' cl fp).sco (g.cm h0).1 hq (fun z => by cases z)
      have hi1 : ∀ (s : Shared) (H : Hp) (C' : Addr) (cl : List (Str × Addr)) (fp : List Addr), PI (X.blk s H scope (compEnvC scope cl C' X.env) fp) tg1' iter1 (exI Γ (evIt (GofM M) (subP M.prg) C it1 n th)) := fun s H C' cl fp => ⟨fun pins s' σ H' R I ⟨l, hq⟩ => (okIt_ok mo co C it1 _ _ N tg1' iter1 h5b _ (Γ.h l) W0 n th (gx_blk g l s H scope C' cl fp) hC hB).run pins s' σ H' R I hq⟩
      have he : ∀ (s : Shared) (H : Hp) (C' : Addr) (cl : List (Str × Addr)) (fp : List Addr), PE (X.blk s H scope (compEnvC scope cl C' X.env) fp) elt' (exE Γ (ev (GofM M) (subP M.prg) C elt n th)) := fun s H C' cl fp => ⟨fun pins s' σ H' Q I ⟨l, hq⟩ => (show PE _ _ _ from okE_ok mo co C elt false _ _ N elt' h6 _ (Γ.h l) W0 n th (gx_blk g l s H scope C' cl fp) hC hB).run pins s' σ H' Q I hq⟩
      have ht : ∀ (s : Shared) (H : Hp) (C' : Addr) (cl : List (Str × Addr)) (fp : List Addr), PTs (X.blk s H scope (compEnvC scope cl C' X.env) fp) ifs (exB Γ (evAll (GofM M) (subP M.prg) C conds n th)) := fun s H C' cl fp => by
        exact ⟨fun pins s' σ H' Q I ⟨l, hq⟩ => ((okEs_ok mo co C conds true _ _ N ifs h8 _ (Γ.h l) W0 n th (gx_blk g l s H scope C' cl fp) hC hB).tst rfl h7).run pins s' σ H' Q I hq⟩
      have ht1 : ∀ (s : Shared) (H : Hp) (C' : Addr) (cl : List (Str × Addr)) (fp : List Addr), PTs (X.blk s H scope (compEnvC scope cl C' X.env) fp) ifs1 (exB Γ (evAll (GofM M) (subP M.prg) C conds1 n th)) := fun s H C' cl fp => by
        exact ⟨fun pins s' σ H' Q I ⟨l, hq⟩ => ((okEs_ok mo co C conds1 true _ _ N ifs1 h9 _ (Γ.h l) W0 n th (gx_blk g l s H scope C' cl fp) hC hB).tst rfl h7b).run pins s' σ H' Q I hq⟩
      refine PE.cg (pe_comp2 mu (g.cm h0).1 g.nd hi blk (fun j => by rw [List.map_append, List.mem_append, h2, h2b]) (hgg h3) ht hi1 (hgg h3b) ht1 he (set_of h4) (fun env x => set_of h4b x)) fun ρ S => ?_
      simp only [ev]
      rfl
    · cases h
  | .lamcall f b, t, fl, sc, N, e, h, X, Γ, W, n, th, g, hC, hB => by
    simp only [okE, Bool.and_eq_true] at h
    obtain ⟨hpl, h⟩ := h
    refine snd_of g.hk ?_ hpl
    split at h
    · rename_i x p body scope lp pos
      simp only [Bool.and_eq_true, decide_eq_true_eq, co.P] at h
      obtain ⟨⟨⟨⟨⟨⟨⟨h0, h1⟩, h2⟩, h3⟩, h4⟩, h5⟩, h6⟩, h7⟩ := h
      obtain ⟨d, e1, e2⟩ := Option.map_eq_some_iff.mp h2
      have np : d.np = 1 := by rw [e1] at h3; exact Option.some.inj h3
      have ok := mo.ok f d e1
      obtain ⟨a, ea⟩ : ∃ a, (M.fds f).ps = [a] := by
        have := ok.np
        rw [np] at this
        exact List.length_eq_one_iff.mp this.symm
      match n, g, hC, hB with
      | 0, g, hC, hB =>
        refine PE.imp (t := fun _ _ _ => False) ⟨fun _ _ _ _ _ _ z => z.elim⟩ fun σ H Q ⟨m, S, ρ, st, en, q⟩ => ?_
        simp only [ev] at q
        exact q
      | 1, g, hC, hB =>
        refine PE.imp (t := fun _ _ _ => False) ⟨fun _ _ _ _ _ _ z => z.elim⟩ fun σ H Q ⟨m, S, ρ, st, en, q⟩ => ?_
        simp only [ev] at q
        exact q
      | k + 2, g, hC, hB =>
        refine PE.cg (pe_lam (fb := fun ρ S => ev (GofM M) (subP M.prg) C b k noThk ρ S) g h0 h1 mo (hB (k + 1) (Nat.lt_succ_self _)) e1 e2.symm ea (gl_of g.sco h4) (nd_of h5).1 (by rw [g.sco]; exact LamX.lamS_by h6) rfl (fun _ _ _ _ _ => rfl) fun B outer s H E fa c' hr hg => ?_) fun ρ S => ?_
        · exact okE_ok mo co C b false ⟨true, false, false, false⟩ scope N body h7 _ Γ _ k noThk (gx_lam g hr hg) (fun j hj => hC j (Nat.le_trans hj (by omega))) (fun j hj => hB j (by omega))
        · simp only [ev, hC (k + 2) (Nat.le_refl _)]
    · cases h
  | .act i, t, fl, sc, N, e, h, X, Γ, W, n, th, g, hC, hB => by
    simp only [okE, Bool.and_eq_true] at h
    obtain ⟨hpl, h⟩ := h
    refine snd_of g.hk ?_ hpl
    split at h
    · simp only [Bool.and_eq_true, decide_eq_true_eq] at h
      obtain ⟨⟨⟨h0, h1⟩, h2⟩, h3⟩ := h
      obtain ⟨h4, h5⟩ := nd_of h3
      exact g.ac h0 X.pn X.xe W g.tk i _ _ _ (by rw [g.N]; exact h1) (vis_of h2) h4 h5
    · cases h
  | .append a b, t, fl, sc, N, e, h, X, Γ, W, n, th, g, hC, hB => by
    simp only [okE, Bool.and_eq_true] at h
    obtain ⟨hpl, h⟩ := h
    refine snd_of g.hk ?_ hpl
    split at h
    · simp only [Bool.and_eq_true, decide_eq_true_eq] at h
      obtain ⟨⟨⟨⟨⟨rfl, h1⟩, h2⟩, h3⟩, h4⟩, h5⟩ := h
      exact pe_app g.hk (okE_ok mo co C a false fl sc N _ h4 X Γ W n th g hC hB) (okE_ok mo co C b false fl sc N _ h5 X Γ W n th g hC hB) (ab_of h1) (star_of h3) h2
    · cases h
  | .what i, t, fl, sc, N, e, h, X, Γ, W, n, th, g, hC, hB => by
    simp only [okE, Bool.and_eq_true] at h
    obtain ⟨hpl, h⟩ := h
    refine snd_of g.hk ?_ hpl
    split at h
    · simp only [Bool.and_eq_true, decide_eq_true_eq] at h
      obtain ⟨⟨⟨⟨rfl, h0⟩, h1⟩, h2⟩, h3⟩ := h
      obtain ⟨h4, h5⟩ := nd_of h3
      exact g.xw h0 i _ _ _ (by rw [g.N]; exact h1) (vis_of h2) h4 h5
    · cases h
  | .isX i c, t, fl, sc, N, e, h, X, Γ, W, n, th, g, hC, hB => by
    simp only [okE, Bool.and_eq_true] at h
    obtain ⟨hpl, h⟩ := h
    refine snd_of g.hk ?_ hpl
    split at h
    · simp only [Bool.and_eq_true, decide_eq_true_eq, co.P] at h
      obtain ⟨⟨⟨⟨⟨⟨⟨⟨rfl, k1⟩, h0⟩, h1⟩, h2⟩, h3⟩, k2⟩, k3⟩, k4⟩ := h
      obtain ⟨h4, h5⟩ := nd_of h3
      obtain ⟨b1, b2, b3⟩ := boot_bf (.isI .int) (by intro z; cases z)
      exact g.xi h0 i c _ _ _ _ _ _ (by rw [g.N]; exact h1) (vis_of h2) h4 h5 (gl_of g.sco k2) (src_bl co g k1 b1 b2) (gl_of g.sco k3) k4
    · cases h
theorem okEs_ok (mo : MdOk M lms) (co : CkOk M ck) (C : Nat → Fns) : ∀ (l : Exs) (t : Bool) (fl : Fl) (sc : Scope) (N : List Str) (es : List Expr), okEs ck t fl sc N l es = true → ∀ (X : Cx) (Γ : Cg) (W : WX) (n : Nat) (th : Thk), GX M n th fl sc N X Γ W →
    (∀ j, j ≤ n → C j = callF M.prg M.wf j) → (∀ j, j < n → BodyS M j lms) → SndL Γ W t X es (evs (GofM M) (subP M.prg) C l n th) (evAnd (GofM M) (subP M.prg) C l n th) (evOr (GofM M) (subP M.prg) C l n th) (evAll (GofM M) (subP M.prg) C l n th)
  | .nil, t, fl, sc, N, es, h, X, Γ, W, n, th, g, hC, hB => by
    simp only [okEs, List.isEmpty_iff] at h
    subst h
    exact ⟨rfl, fun _ => pa_none, fun _ kws e => (match kws, e with
      | [], _ => pk_none
      | k :: kws, e => (by cases e)), fun z => absurd rfl z, fun _ _ => tests_no, fun z => absurd rfl z⟩
  | .cons a l, t, fl, sc, N, es, h, X, Γ, W, n, th, g, hC, hB => by
    unfold okEs at h
    split at h
    · rename_i e r
      simp only [Bool.and_eq_true] at h
      obtain ⟨⟨h1, h2⟩, h3⟩ := h
      have i1 := okE_ok mo co C a t fl sc N e h2 X Γ W n th g hC hB
      have i2 := okEs_ok mo co C l t fl sc N r h3 X Γ W n th g hC hB
      refine ⟨by rw [List.all_cons, h1, i2.star]; rfl, fun ht => ?_, fun ht kws ek => ?_, fun _ pos => ⟨fun ht => ?_, fun ht => ?_⟩, fun ht hl => ?_, fun _ pos => ⟨fun ht => ?_, fun ht => ?_⟩⟩
      · subst ht
        exact pa_more i1 (i2.arg rfl) (star_of h1)
      all_goals subst ht
      · cases kws with
        | nil => cases ek
        | cons k kws =>
          obtain ⟨nm, v, kp⟩ := k
          simp only [List.map_cons, List.cons.injEq] at ek
          obtain ⟨rfl, ek⟩ := ek
          exact pk_more i1 (i2.kw rfl kws ek)
      · match l, r, h3, i2 with
        | .nil, [], _, _ => exact pe_one i1
        | .nil, x :: r, h3, _ => simp [okEs] at h3
        | .cons b l, [], h3, _ => simp [okEs] at h3
        | .cons b l, x :: r, _, i2 => exact pe_andd g.hk i1 ((i2.an (by simp) pos).1 rfl)
      · match l, r, h3, i2 with
        | .nil, [], _, _ => exact (pw_one i1).1
        | .nil, x :: r, h3, _ => simp [okEs] at h3
        | .cons b l, [], h3, _ => simp [okEs] at h3
        | .cons b l, x :: r, _, i2 => exact pw_andd i1 ((i2.an (by simp) pos).2 rfl)
      · match l, r, h3, hl with
        | .nil, [], _, _ => exact tests_ok i1
        | .nil, x :: r, h3, _ => simp [okEs] at h3
        | .cons b l, [], h3, _ => simp [okEs] at h3
        | .cons b l, x :: r, _, hl => simp at hl
      · match l, r, h3, i2 with
        | .nil, [], _, _ => exact pe_one i1
        | .nil, x :: r, h3, _ => simp [okEs] at h3
        | .cons b l, [], h3, _ => simp [okEs] at h3
        | .cons b l, x :: r, _, i2 => exact pe_orr g.hk i1 ((i2.or (by simp) pos).1 rfl)
      · match l, r, h3, i2 with
        | .nil, [], _, _ => exact (pw_one i1).2
        | .nil, x :: r, h3, _ => simp [okEs] at h3
        | .cons b l, [], h3, _ => simp [okEs] at h3
        | .cons b l, x :: r, _, i2 => exact pw_orr i1 ((i2.or (by simp) pos).2 rfl)
    · cases h
theorem okIt_ok (mo : MdOk M lms) (co : CkOk M ck) (C : Nat → Fns) : ∀ (it : It) (fl : Fl) (sc : Scope) (N : List Str) (tg i : Expr), okIt ck fl sc N tg it i = true → ∀ (X : Cx) (Γ : Cg) (W : WX) (n : Nat) (th : Thk), GX M n th fl sc N X Γ W →
    (∀ j, j ≤ n → C j = callF M.prg M.wf j) → (∀ j, j < n → BodyS M j lms) → PI X tg i (rIt Γ W (evIt (GofM M) (subP M.prg) C it n th))
  | .seq e, fl, sc, N, tg, i, h, X, Γ, W, n, th, g, hC, hB => pi_seqq g.hk (okE_ok mo co C e false fl sc N i h X Γ W n th g hC hB)
  | .range1 a, fl, sc, N, tg, i, h, X, Γ, W, n, th, g, hC, hB => by
    unfold okIt at h
    split at h
    · simp only [Bool.and_eq_true, decide_eq_true_eq] at h
      obtain ⟨⟨⟨⟨rfl, h1⟩, h2⟩, h3⟩, h4⟩ := h
      have i1 := okE_ok mo co C a false fl sc N _ h4 X Γ W n th g hC hB
      exact PI.cg (pi_rng1 (gl_of g.sco h2) (by rw [g.mg]; exact co.bl _ h1) (pa_more i1 pa_none (star_of h3)) (star_of h3)) evIt1
    · cases h
  | .range2 a b, fl, sc, N, tg, i, h, X, Γ, W, n, th, g, hC, hB => by
    unfold okIt at h
    split at h
    · simp only [Bool.and_eq_true, decide_eq_true_eq] at h
      obtain ⟨⟨⟨⟨⟨⟨rfl, h1⟩, h2⟩, h3⟩, h4⟩, h5⟩, h6⟩ := h
      have i1 := okE_ok mo co C a false fl sc N _ h5 X Γ W n th g hC hB
      have i2 := okE_ok mo co C b false fl sc N _ h6 X Γ W n th g hC hB
      have s2 := star_of (es := []) (env := X.env) h4
      exact PI.cg (pi_rng2 (gl_of g.sco h2) (by rw [g.mg]; exact co.bl _ h1) (pa_more i1 (pa_more i2 pa_none s2) (star_of h3)) (by rw [star_of h3, s2]; rfl) s2) evIt2
    · cases h
  | .range3 a b c, fl, sc, N, tg, i, h, X, Γ, W, n, th, g, hC, hB => by
    unfold okIt at h
    split at h
    · simp only [Bool.and_eq_true, decide_eq_true_eq] at h
      obtain ⟨⟨⟨⟨⟨⟨⟨⟨rfl, h1⟩, h2⟩, h3⟩, h4⟩, h4c⟩, h5⟩, h6⟩, h7⟩ := h
      have i1 := okE_ok mo co C a false fl sc N _ h5 X Γ W n th g hC hB
      have i2 := okE_ok mo co C b false fl sc N _ h6 X Γ W n th g hC hB
      have i3 := okE_ok mo co C c false fl sc N _ h7 X Γ W n th g hC hB
      exact PI.cg (pi_rng3 (gl_of g.sco h2) (by rw [g.mg]; exact co.bl _ h1) (pa_more i1 (pa_more i2 (pa_more i3 pa_none (star_of h4c)) (star_of h4)) (star_of h3)) (star_of h3) (stars_of (by simp [h4, h4c]))) evIt3
    · cases h
  | .enum a, fl, sc, N, tg, i, h, X, Γ, W, n, th, g, hC, hB => by
    unfold okIt at h
    split at h
    · simp only [Bool.and_eq_true, decide_eq_true_eq] at h
      obtain ⟨⟨⟨⟨⟨rfl, h1⟩, h2⟩, h3⟩, h4⟩, h5⟩ := h
      have i1 := okE_ok mo co C a false fl sc N _ h5 X Γ W n th g hC hB
      split at h4
      · exact PI.cg (pi_ens g.hk (gl_of g.sco h2) (by rw [g.mg]; exact co.bl _ h1) (pa_more i1 pa_none (star_of h3)) (star_of h3)) evItE
      · cases h4
    · cases h
  | .zip2 a b, fl, sc, N, tg, i, h, X, Γ, W, n, th, g, hC, hB => by
    unfold okIt at h
    split at h
    · simp only [Bool.and_eq_true, decide_eq_true_eq] at h
      obtain ⟨⟨⟨⟨⟨⟨⟨rfl, h1⟩, h2⟩, h3⟩, h4⟩, h4t⟩, h5⟩, h6⟩ := h
      have i1 := okE_ok mo co C a false fl sc N _ h5 X Γ W n th g hC hB
      have i2 := okE_ok mo co C b false fl sc N _ h6 X Γ W n th g hC hB
      split at h4t
      · exact PI.cg (pi_zip2 g.hk (gl_of g.sco h2) (by rw [g.mg]; exact co.bl _ h1) (pa_more i1 (pa_more i2 pa_none (star_of h4)) (star_of h3)) (star_of h3) (stars_of (by simp [h4]))) evItZ
      · cases h4t
    · cases h
end
end
end Bh

set_option Elab.async false
set_option linter.all false
set_option maxRecDepth 10000
namespace Bh
open PySem PySem.Spec L2 PyProof.Rows
/-! ### statements beside the text -/
def funB (sc : Scope) : Bool := decide (sc.kind = .function)
def swB (sc scope : Scope) (y : Str) (py cpos : Pos) : Bool := decide (sc.names.lookup y = some .local) && (py.line == cpos.line) && !(scope.names.any fun (n, k) => n == y && (k == .local || k == .cell))
theorem blk_kind {env : PySem.Env} {sc : Scope} (hs : env.scope = sc) (hf : funB sc = true) : env.blockKind = .function := by
  unfold PySem.Env.blockKind
  rw [hs, show sc.kind = .function from of_decide_eq_true hf]
  rfl
theorem sw_is {elt : Expr} {gs : List Comprehension} {scope sc : Scope} {y : Str} {py cpos : Pos} {l : Nat} {env : PySem.Env} (hs : env.scope = sc) (hf : funB sc = true) : swapsWith (.ListComp elt gs scope cpos) (some (.Name y py)) l env = pure (swB sc scope y py cpos) := by
  have hb := blk_kind hs hf
  have hk : env.kindOf y = sc.names.lookup y := by unfold PySem.Env.kindOf; rw [hs]
  unfold swapsWith
  simp only [hb, hk, Expr.pos]
  unfold swB
  by_cases h : sc.names.lookup y = some .local
  · simp [h]
  · have : (sc.names.lookup y == some .local) = false := by simpa using h
    simp [h, this]
theorem sw_no {e : Expr} {tg : Option Expr} {l : Nat} {env : PySem.Env} (h : noComp e = true) : swapsWith e tg l env = pure false := by
  cases e <;> first | rfl | cases h
def noTup : Expr → Bool
  | .Tuple .. => false
  | _ => true
def isTup : Expr → Bool
  | .Tuple .. => true
  | _ => false
def isNm : Expr → Bool
  | .Name .. => true
  | _ => false
theorem st_nm {x : Str} {p : Pos} {e : Expr} {env : PySem.Env} : swappedStores [.Name x p] e env = pure none := rfl
theorem st_no {tg e : Expr} {env : PySem.Env} (h : noTup e = true) : swappedStores [tg] e env = pure none := by
  cases e <;> first | (cases tg <;> rfl) | cases h
theorem sw_tup {es : List Expr} {k : Nat} {p : Pos} {e : Expr} {l : Nat} {env : PySem.Env} : swapsWith e (some (.Tuple es k p)) l env = pure false := by
  cases e <;> rfl
/-- x, y = a, b: the stores are exchanged -/
def parB (sc : Scope) (ns : List (Str × Pos)) (vs : List Expr) : Bool :=
  funB sc && vs.all noStar && (ns.all fun p => decide (sc.names.lookup p.1 = some .local) && (p.2.line == ((ns.head?.map (·.2.line)).getD 0))) && decide ((ns.map (·.1)).Nodup) && !(vs.all (foldedForSure 8)) && !(vs.all (constantsAlone 8))
theorem st_2 {x y : Str} {px py pt pt2 : Pos} {a b : Expr} {kt k2 : Nat} {env : PySem.Env} {sc : Scope} (hs : env.scope = sc) (h : parB sc [(x, px), (y, py)] [a, b] = true) : swappedStores [.Tuple [.Name x px, .Name y py] kt pt] (.Tuple [a, b] k2 pt2) env = pure (some [x, y]) := by
  unfold parB at h
  simp only [Bool.and_eq_true, List.all_cons, List.all_nil, Bool.not_eq_true', decide_eq_true_eq, List.head?_cons, Option.map_some, Option.getD_some, List.map_cons, List.map_nil, and_true, Bool.and_true] at h
  obtain ⟨⟨⟨⟨⟨h1, h2, h3⟩, ⟨h4, h5⟩, h6, h7⟩, h8⟩, h9⟩, h10⟩ := h
  have hb := blk_kind hs h1
  have k1 : env.kindOf x = some .local := by unfold PySem.Env.kindOf; rw [hs]; exact h4
  have k2' : env.kindOf y = some .local := by unfold PySem.Env.kindOf; rw [hs]; exact h6
  have ne : x ≠ y := fun z => by simp [z] at h8
  have h7' : py.line = px.line := eq_of_beq h7
  unfold swappedStores
  simp [hb, k1, k2', h7', h9, h10, Expr.pos, List.eraseDups_cons, List.filterMap_cons, List.filterMap_nil, ne, Ne.symm ne]
  intro q
  exfalso
  rcases q with q | q
  · cases a <;> first | (cases h2; done) | cases q
  · cases b <;> first | (cases h3; done) | cases q
theorem st_3 {x y z : Str} {px py pz pt pt2 : Pos} {a b c : Expr} {kt k2 : Nat} {env : PySem.Env} {sc : Scope} (hs : env.scope = sc) (h : parB sc [(x, px), (y, py), (z, pz)] [a, b, c] = true) : swappedStores [.Tuple [.Name x px, .Name y py, .Name z pz] kt pt] (.Tuple [a, b, c] k2 pt2) env = pure (some [x, y, z]) := by
  unfold parB at h
  simp only [Bool.and_eq_true, List.all_cons, List.all_nil, Bool.not_eq_true', decide_eq_true_eq, List.head?_cons, Option.map_some, Option.getD_some, List.map_cons, List.map_nil, and_true, Bool.and_true] at h
  obtain ⟨⟨⟨⟨⟨h1, h2, h3, h3'⟩, ⟨h4, h5⟩, ⟨h6, h7⟩, h6', h7'⟩, h8⟩, h9⟩, h10⟩ := h
  have hb := blk_kind hs h1
  have k1 : env.kindOf x = some .local := by unfold PySem.Env.kindOf; rw [hs]; exact h4
  have k2' : env.kindOf y = some .local := by unfold PySem.Env.kindOf; rw [hs]; exact h6
  have k3' : env.kindOf z = some .local := by unfold PySem.Env.kindOf; rw [hs]; exact h6'
  have n1 : x ≠ y := fun q => by simp [q] at h8
  have n2 : x ≠ z := fun q => by simp [q] at h8
  have n3 : y ≠ z := fun q => by simp [q] at h8
  have q1 : py.line = px.line := eq_of_beq h7
  have q2 : pz.line = px.line := eq_of_beq h7'
  unfold swappedStores
  simp [hb, k1, k2', k3', q1, q2, h9, h10, Expr.pos, List.eraseDups_cons, List.filterMap_cons, List.filterMap_nil, n1, n2, n3, Ne.symm n1, Ne.symm n2, Ne.symm n3]
  intro q
  exfalso
  rcases q with q | q | q
  · cases a <;> first | (cases h2; done) | cases q
  · cases b <;> first | (cases h3; done) | cases q
  · cases c <;> first | (cases h3'; done) | cases q
def noLoc (sc : Scope) (ns : List Str) : Bool := ns.any fun x => decide (sc.names.lookup x ≠ some .local)
theorem fm_short {α β : Type} {f : α → Option β} : ∀ {l : List α}, (∃ a ∈ l, f a = none) → (l.filterMap f).length ≠ l.length
  | [], ⟨a, h, _⟩ => by cases h
  | x :: l, ⟨a, h, e⟩ => by
    have le : (l.filterMap f).length ≤ l.length := List.length_filterMap_le f l
    rcases List.mem_cons.mp h with q | q
    · subst q
      rw [List.filterMap_cons, e]
      simp only [List.length_cons]
      omega
    · have ih := fm_short (f := f) ⟨a, q, e⟩
      rw [List.filterMap_cons]
      cases f x with
      | none => simp only [List.length_cons]; omega
      | some b => simp only [List.length_cons]; omega
theorem st_c {ns : List (Str × Pos)} {pt pt2 : Pos} {vs : List Expr} {kt k2 : Nat} {env : PySem.Env} {sc : Scope} (hs : env.scope = sc) (h : noLoc sc (ns.map (·.1)) = true) : swappedStores [.Tuple (ns.map fun p => .Name p.1 p.2) kt pt] (.Tuple vs k2 pt2) env = pure none := by
  obtain ⟨x, hx, hn⟩ := List.any_eq_true.mp h
  obtain ⟨p, hp, rfl⟩ := List.mem_map.mp hx
  have hk : env.kindOf p.1 ≠ some .local := by unfold PySem.Env.kindOf; rw [hs]; exact of_decide_eq_true hn
  have hk' : (env.kindOf p.1 == some .local) = false := by simpa using hk
  unfold swappedStores
  simp only
  split
  · rfl
  · split
    · rfl
    · have sh : ∀ (f : Expr → Option Str), f (.Name p.1 p.2) = none → ((ns.map fun p => Expr.Name p.1 p.2).filterMap f).length ≠ (ns.map fun p => Expr.Name p.1 p.2).length := fun f e => fm_short ⟨_, List.mem_map.mpr ⟨p, hp, rfl⟩, e⟩
      refine if_pos ?_
      rw [Bool.or_eq_true]
      left
      rw [bne_iff_ne]
      exact sh _ (by simp [hk'])
/-- constants alone are laid as one tuple -/
theorem st_f {es : List Expr} {pt pt2 : Pos} {vs : List Expr} {kt k2 : Nat} {env : PySem.Env} (h : vs.all (foldedForSure 8) = true) : swappedStores [.Tuple es kt pt] (.Tuple vs k2 pt2) env = pure none := by
  unfold swappedStores
  simp only
  split
  · rfl
  · split
    · rfl
    · split
      · rfl
      · first | rfl | exact if_pos h | (rw [if_pos h])
theorem st_cf {ns : List (Str × Pos)} {pt pt2 : Pos} {vs : List Expr} {kt k2 : Nat} {env : PySem.Env} {sc : Scope} (hs : env.scope = sc) (h : (noLoc sc (ns.map (·.1)) || vs.all (foldedForSure 8)) = true) : swappedStores [.Tuple (ns.map fun p => .Name p.1 p.2) kt pt] (.Tuple vs k2 pt2) env = pure none := by
  rcases Bool.or_eq_true_iff.mp h with h | h
  · exact st_c hs h
  · exact st_f h
end Bh

set_option Elab.async false
set_option linter.all false
set_option maxRecDepth 10000
namespace Bh
open PySem PySem.Spec L2 PyProof.Rows
def nmPos : Expr → Str × Pos
  | .Name x p => (x, p)
  | e => ("", e.pos)
mutual
def okS (ck : Ck) : Fl → Scope → List Str → Sm → Stmt → Bool
  | fl, sc, N, .expr e, st => (match st with
    | .Expr e' _ => noComp e' && okE ck false fl sc N e e'
    | _ => false)
  | fl, sc, N, .asg tg e, st => (match st with
    | .Assign [tg'] e' _ => (fl.cm && funB sc && tgB sc N true tg tg' && okE ck false fl sc N e e' && (match tg', e' with
      | .Name y py, .ListComp _ _ scope cpos => true
      | .Name _ _, _ => noComp e'
      | .Tuple _ _ _, _ => noTup e'
      | _, _ => false)) || (match tg, tg' with
      | .nm i, .Name x _ => nmB sc N i x && decide (sc.names.lookup x = some .local) && noComp e' && okE ck false fl sc N e e'
      | _, _ => false)
    | _ => false)
  | fl, sc, N, .par is es, st => (match st with
    | .Assign [.Tuple [.Name x px, .Name y py] _ _] (.Tuple [a, b] _ _) _ => fl.cm && (parB sc [(x, px), (y, py)] [a, b] || (noLoc sc [x, y] || [a, b].all (foldedForSure 8))) && nmsB sc N is [.Name x px, .Name y py] && okEs ck false fl sc N es [a, b]
    | .Assign [.Tuple [.Name x px, .Name y py, .Name z pz] _ _] (.Tuple [a, b, c] _ _) _ => fl.cm && (parB sc [(x, px), (y, py), (z, pz)] [a, b, c] || (noLoc sc [x, y, z] || [a, b, c].all (foldedForSure 8))) && nmsB sc N is [.Name x px, .Name y py, .Name z pz] && okEs ck false fl sc N es [a, b, c]
    | _ => false)
  | fl, sc, N, .setIx a i e, st => (match st with
    | .Assign [.Subscript a' i' _] e' _ => noComp e' && noTup e' && noSlice i' && okE ck false fl sc N a a' && okE ck false fl sc N i i' && okE ck false fl sc N e e'
    | _ => false)
  | fl, sc, N, .if_ c t e, st => (match st with
    | .If c' t' e' _ => okE ck true fl sc N c c' && okSs ck fl sc N t t' && okSs ck fl sc N e e'
    | _ => false)
  | fl, sc, N, .for_ tg it b, st => (match st with
    | .For tg' i' b' [] _ => fl.cm && tgB sc N true tg tg' && noSet i' && okIt ck fl sc N tg' it i' && okSs ck fl sc N b b'
    | _ => false)
  | fl, sc, N, .forc tg i b, st => (match st with
    | .For tg' (.Name x _) b' [] _ => fl.cm && tgB sc N true tg tg' && decide (N[i]? = some x) && visB sc x && ndB x && okSs ck fl sc N b b'
    | _ => false)
  | fl, sc, N, .while_ c b, st => (match st with
    | .While c' b' [] _ => fl.cm && okE ck true fl sc N c c' && okSs ck fl sc N b b'
    | _ => false)
  | fl, sc, N, .ret e, st => (match st with
    | .Return (some e') _ => okE ck false fl sc N e e'
    | _ => false)
  | fl, sc, N, .retN, st => (match st with
    | .Return none _ => true
    | _ => false)
  | fl, sc, N, .raise c e, st => (match st with
    | .Raise (some (.Call (.Name x _) [e'] [] _)) none _ => fl.cm && decide (ck.P.cls[c]? = some x) && decide (c < ck.P.sub.length) && glB sc x && noStar e' && okE ck false fl sc N e e'
    | _ => false)
  | fl, sc, N, .try_ b h, st => (match st with
    | .Try b' hs' [] [] _ => !hs'.isEmpty && okSs ck ⟨fl.cm, fl.lm, fl.ac, false⟩ sc N b b' && okH ck fl sc N h hs'
    | _ => false)
  | fl, sc, N, .pass, st => (match st with
    | .Pass _ => true
    | _ => false)
def okSs (ck : Ck) : Fl → Scope → List Str → Sms → List Stmt → Bool
  | fl, sc, N, .nil, sts => sts.isEmpty
  | fl, sc, N, .cons a l, sts => (match sts with
    | st :: r => okS ck fl sc N a st && okSs ck fl sc N l r
    | [] => false)
def okH (ck : Ck) : Fl → Scope → List Str → Hds → List ExceptHandler → Bool
  | fl, sc, N, .nil, hs => hs.isEmpty
  | fl, sc, N, .cons k i b l, hs => (match i, hs with
    | some j, .ExceptHandler (some (.Name x _)) (some nm) (b₀ :: su) _ :: r => decide (ck.P.cls[k]? = some x) && glB sc x && decide (N[j]? = some nm) && decide (sc.names.lookup nm = some .local) && okSs ck ⟨false, false, false, true⟩ sc N b (b₀ :: su) && okH ck fl sc N l r
    | none, .ExceptHandler (some (.Name x _)) none (b₀ :: su) _ :: r => decide (ck.P.cls[k]? = some x) && glB sc x && okSs ck ⟨false, false, false, false⟩ sc N b (b₀ :: su) && okH ck fl sc N l r
    | _, _ => false)
end
end Bh

set_option Elab.async false
set_option linter.all false
set_option maxRecDepth 10000
/-! Bh: several except clauses, with and without a name. -/
namespace Bh
open PySem PySem.Spec L2 PyProof.Rows
/-- an exception that has left a suite, where its clauses are asked -/
structure Air (X : Cx) (pins : List (Addr × Obj)) (σ : L2.St) (H : Hp) (a : Addr) (cls : Value) (d : Option Addr) (t : Shared) (h : Heap) : Prop where
  ex : ∃ (B : Heap) (t0 : Shared), Inv X pins σ H t0 ∧ (∀ b o, t0.heap.get? b = some o → b ∉ frs X.stack → B.get? b = some o) ∧ t0.heap.UpToSlots h ∧ t.os = t0.os ∧ AllBare t.gens ∧ HandSPX.FlyingZ B (X.env :: X.outer) a (Zc cls d) h
  na : H a = none
  nl : a ≠ X.env.locals
  nf : a ∉ X.fs
/-- the clauses' promise -/
def ClOk (X : Cx) (pins : List (Addr × Obj)) (D : Ends) (hs : List ExceptHandler) (w : WX) : Prop := ∀ {σ : L2.St} {H : Hp} {a : Addr} {cls : Value} {d : Option Addr} {t : Shared} {h : Heap}, Air X pins σ H a cls d t h → w cls d σ H →
  wpAny (model X.prog X.w) X.A (handleBy (.ref a) X.env hs) (SP X pins D) X.xe { t with heap := h }
/-- one clause's wish; asd: what stands behind its suite and ahead of it -/
def wCl (K : PySem.W.Frag) (c : Value) (go : Addr → WX) (rest : WX) : WX := fun cls d σ H => ∃ b, PySem.W.exmOne K cls c = some b ∧ (b = true → ∀ a, H a = none → go a cls d σ H) ∧ (b = false → rest cls d σ H)
/-- the ends of a suite that has a name for its error -/
def endsA (i : Nat) (D : Ends) : Ends := { nx := fun τ G => D.nx (τ.set i none) G, rt := D.rt, bk := fun τ G => D.bk (τ.set i none) G, ct := fun τ G => D.ct (τ.set i none) G }
section
variable {X : Cx} {pins : List (Addr × Obj)} {D : Ends} {c : Value} {x nm : Str} {i : Nat} {b₀ : Stmt} {su : List Stmt} {np pos pos' : Pos} {hs : List ExceptHandler} {w : WX} {ts : Addr → Value → Option Addr → TS}
theorem Air.inv {σ : L2.St} {H : Hp} {a : Addr} {cls : Value} {d : Option Addr} {t : Shared} {h : Heap} (A : Air X pins σ H a cls d t h) : Inv X pins σ H { t with heap := h } := by
  obtain ⟨B, t0, J, nb, up, os, ag, fl⟩ := A.ex
  exact J.landed nb fl.1 up os ag
theorem Air.suite {σ : L2.St} {H : Hp} {a : Addr} {cls : Value} {d : Option Addr} {t : Shared} {h : Heap} (A : Air X pins σ H a cls d t h) : ∃ oe, h.get? a = some oe ∧ Zc cls d oe ∧ (∃ vs, oe.data = .fields vs) ∧ Inv (X.suite a ((a, oe) :: (X.pn ++ pins))) [] σ H { t with heap := h } := by
  have I := A.inv
  obtain ⟨B, t0, J, nb, up, os, ag, fl⟩ := A.ex
  obtain ⟨oe, vs, e1, e2, e3⟩ := fl.there
  exact ⟨oe, e1, e2, ⟨vs, e3⟩, I.suite e1 e3 A.na A.nl A.nf⟩
theorem Air.again {σ : L2.St} {H : Hp} {a : Addr} {cls : Value} {d : Option Addr} {t : Shared} {h : Heap} {M : Model} {Ar : Around} {E : Value → Shared → Prop} {Q : Unit → Shared → Prop} (A : Air X pins σ H a cls d t h) (k : ∀ h', Air X pins σ H a cls d t h' → Q () { t with heap := h' }) :
    wpAny M Ar (setFlight (.ref a) none) Q E { t with heap := h } := by
  obtain ⟨B, t0, J, nb, up, os, ag, fl⟩ := A.ex
  exact HandSPX.lands_againZ fl fun h' fl' up' => k h' ⟨⟨B, t0, J, nb, up.trans up', os, ag, fl'⟩, A.na, A.nl, A.nf⟩
/-- no clause is left: it goes on -/
theorem hok_nil (hst : X.stack = X.env :: X.outer) (hf : X.env.frame = some X.env.locals) (tk : Takes X w) : ClOk X pins D [] w := by
  intro σ H a cls d t h A q
  obtain ⟨B, t0, J, nb, up, os, ag, fl⟩ := id A.ex
  refine wpAny_handleBy_nil ?_
  obtain ⟨_, _, _, oe, vs, T, oT, tt, g1, g2, g3, g4, g5⟩ := id fl
  unfold PySem.passOn
  refine wpAny_bind (wpAny_field g1 g3 g4 ?_)
  rw [if_neg (show ¬ ((Value.ref T == Value.none) = true) from by simp)]
  have last : wpAny (model X.prog X.w) X.A (setFlight (.ref a) X.env.frame) (fun _ t4 => wpAny (model X.prog X.w) X.A (throw (.ref a) : Sem Flow) (SP X pins D) X.xe t4) X.xe { t with heap := h } := by
    rw [hf]
    refine HandSPX.setFlight_upZ fl fun h' hh up' => wpAny_throw (tk _ _ ?_)
    exact ⟨a, B, t0, pins, σ, H, cls, d, rfl, J, nb, up.trans up', .inr (.inr (by rw [hst]; exact hh)), A.na, os, ag, q⟩
  first
    | exact wpAny_bind (wpAny_pure (wpAny_bind last))
    | exact wpAny_bind last
/-- the test of a clause -/
theorem Air.test {σ : L2.St} {H : Hp} {a : Addr} {cls : Value} {d : Option Addr} {t : Shared} {h : Heap} {b : Bool} {Q : Bool → Shared → Prop} {E E' : Value → Shared → Prop} (A : Air X pins σ H a cls d t h) (hc : Names X x c) (hb : PySem.W.exmOne X.K cls c = some b) (k : Q b { t with heap := h }) :
    wpAny (model X.prog X.w) (X.A.mark (some (.ref a))) (eval (.Name x np) X.env) (fun v t1 => wpAny (model X.prog X.w) (X.A.mark (some (.ref a))) (excMatches (.ref a) v) Q E' t1) E { t with heap := h } := by
  obtain ⟨oe, g1, g2, ⟨vs, g3⟩, J⟩ := A.suite
  have look : PySem.W.Looks (model X.prog X.w) h (typeOf (.ref a)) cls := fun _ _ _ _ kp q => wpAny_typeOf_ref (kp _ _ g1) (by rw [g2.1]; exact q)
  have L := PySem.W.exm_one (M := model X.prog X.w) (A.inv.kIn) look hb
  obtain ⟨hg, hdb, hm | ⟨hm, hv, hne⟩⟩ := hc
  · exact ld_glob (X := X.suite a ((a, oe) :: (X.pn ++ pins))) J hg hm (L.here k) hdb
  · exact ld_blt (X := X.suite a ((a, oe) :: (X.pn ++ pins))) J hg hm hv (L.here k) hne hdb
/-- except x: su -/
theorem hok_plain (ok : X.Ok) (hc : Names X x c) (hsu : ∀ (a : Addr) (oe : Obj) (cls : Value) (d : Option Addr) (pn : List (Addr × Obj)), Zc cls d oe → (∃ vs, oe.data = .fields vs) → PSs (X.suite a ((a, oe) :: pn)) (b₀ :: su) (ts a cls d))
    (r : ClOk X pins D hs w) : ClOk X pins D (.ExceptHandler (some (.Name x np)) none (b₀ :: su) pos' :: hs) (wCl X.K c (fun a cls d σ H => ts a cls d D σ H) w) := by
  intro σ H a cls d t h A ⟨b, hb, yes, no⟩
  refine wpAny_handleBy_cons (codeAny_handlers_test (A.test hc hb ?_)) (by intro z; cases z)
  cases b with
  | false => exact r A (no rfl)
  | true =>
    refine codeAny_handlers_suite (A.again fun h' A' => ?_)
    obtain ⟨oe, g1, g2, g3, J⟩ := A'.suite
    refine wpAny_mono ((hsu a oe cls d (X.pn ++ pins) g2 g3).run [] _ _ H _ J (yes rfl a A.na)) (fun f t6 q => ?_) (fun _ _ z => False.elim z)
    cases f with
    | ret u =>
      obtain ⟨v, τ, G, J6, q1, q2⟩ := q
      exact ⟨v, τ, G, J6.unsuite ok, q1, q2⟩
    | next =>
      obtain ⟨τ, G, J6, q1⟩ := q
      exact ⟨τ, G, J6.unsuite ok, q1⟩
    | brk =>
      obtain ⟨τ, G, J6, q1⟩ := q
      exact ⟨τ, G, J6.unsuite ok, q1⟩
    | cont =>
      obtain ⟨τ, G, J6, q1⟩ := q
      exact ⟨τ, G, J6.unsuite ok, q1⟩
/-- except x as nm: su -/
theorem hok_as (ok : X.Ok) (hN : X.N.Nodup) (hi : X.N[i]? = some nm) (hln : X.env.kindOf nm = some .local) (hc : Names X x c) (hsu : ∀ (a : Addr) (oe : Obj) (cls : Value) (d : Option Addr) (pn : List (Addr × Obj)), Zc cls d oe → (∃ vs, oe.data = .fields vs) → PSs (X.suite a ((a, oe) :: pn)) (b₀ :: su) (ts a cls d))
    (r : ClOk X pins D hs w) : ClOk X pins D (.ExceptHandler (some (.Name x np)) (some nm) (b₀ :: su) pos' :: hs) (wCl X.K c (fun a cls d σ H => ts a cls d (endsA i D) (σ.set i (some (.ref a))) H) w) := by
  intro σ H a cls d t h A ⟨b, hb, yes, no⟩
  refine wpAny_handleBy_cons (codeAny_handlers_test (A.test hc hb ?_)) (by intro z; cases z)
  cases b with
  | false => exact r A (no rfl)
  | true =>
    refine codeAny_handlers_suite_as (A.again fun h' A' => ?_)
    obtain ⟨oe, g1, g2, g3, J⟩ := A'.suite
    refine store_ok (X := X.suite a ((a, oe) :: (X.pn ++ pins))) (v := .ref a) J hN hi (.inl hln) rfl (fun t5 J5 => ?_) (.inr hln)
    refine wpAny_mono ((hsu a oe cls d (X.pn ++ pins) g2 g3).run [] t5 _ H _ J5 (yes rfl a A.na)) (fun f t6 q => ?_) (fun _ _ z => False.elim z)
    have off : ∀ {τ : L2.St} {G : Hp} {Q : Shared → Prop}, Inv (X.suite a ((a, oe) :: (X.pn ++ pins))) [] τ G t6 → (∀ t7, Inv X pins (τ.set i none) G t7 → Q t7) →
        wpAny (model X.prog X.w) X.A (do bindName X.env nm .none; unbindBehindTheSuite X.env nm pos') (fun _ t7 => Q t7) X.xe t6 := fun {τ G Q} J6 k => gone_ok (J6.unsuite ok) hN hi hln k
    cases f with
    | ret u =>
      obtain ⟨v, τ, G, J6, q1, q2⟩ := q
      exact off J6 fun t7 J7 => ⟨v, _, _, J7, q1, q2⟩
    | next =>
      obtain ⟨τ, G, J6, q1⟩ := q
      exact off J6 fun t7 J7 => ⟨_, _, J7, q1⟩
    | brk =>
      obtain ⟨τ, G, J6, q1⟩ := q
      exact off J6 fun t7 J7 => ⟨_, _, J7, q1⟩
    | cont =>
      obtain ⟨τ, G, J6, q1⟩ := q
      exact off J6 fun t7 J7 => ⟨_, _, J7, q1⟩
/-- try: body / except .. -/
theorem ps_tryc {body : List Stmt} {h0 : ExceptHandler} {tb : WX → TS} {wd : Ends → WX} (hst : X.stack = X.env :: X.outer) (hf : X.env.frame = some X.env.locals)
    (hb : ∀ (W : WX) (pn : List (Addr × Obj)) (xe : Value → Shared → Prop), Takes (X.tr pn xe) W → PassesOwn (model X.prog X.w) X.A X.env xe → PSs (X.tr pn xe) body (tb W))
    (hh : X.Ok → ∀ pins D, ClOk X pins D (h0 :: hs) (wd D)) : PS X (.Try body (h0 :: hs) [] [] pos) (fun D σ H => tb (wd D) D σ H) := by
  refine ⟨fun pins s σ H D I q => ?_⟩
  have ok := I.ok
  have fr : X.A.frames = some (X.env :: X.outer) := by rw [ok.frames, hst]
  refine wpAny_Try_except (wpAny_mono ((hb (wd D) (X.pn ++ pins) (fun e t1 => wpAny (model X.prog X.w) X.A (noteFrame e X.env) (fun _ t2 => wpAny (model X.prog X.w) X.A (setFlight e none)
    (fun _ t3 => wpAny (model X.prog X.w) X.A (handleBy e X.env (h0 :: hs)) (SP X pins D) X.xe t3) X.xe t2) X.xe t1) (fun u t' z => ?_) PassesOwn.looking).run [] s σ H D (I.toTry _) q) (fun f t1 z => ?_) (fun e t1 z => z))
  · obtain ⟨a, B, t0, p', τ, G, cls, d, rfl, J', nb, up, sky, na, os, ag, z⟩ := z
    have J : Inv X pins τ G t0 := J'.ofTry ok
    have sk : Sky B (X.env :: X.outer) a (Zc cls d) X.env.locals t'.heap := by rw [← hst]; exact sky
    show wpAny (model X.prog X.w) X.A (noteFrame (.ref a) X.env) _ _ _
    refine Sky.land Zc.steady fr hf sk fun h3 fl up3 => ?_
    obtain ⟨oe, vs, g1, g2, g3⟩ := fl.there
    have nfr : a ∉ frs (X.env :: X.outer) := fun hm => by
      obtain ⟨_, o', e', hn⟩ := fl.2.2.1.mem hm
      rw [g1] at e'
      cases e'
      exact hn _ g3
    refine hh ok pins D ⟨⟨B, t0, J, nb, up.trans up3, os, ag, fl⟩, na, fun z => nfr (List.mem_filterMap.mpr ⟨X.env, List.mem_cons_self, by rw [hf, z]⟩), fun hm => ?_⟩ z
    obtain ⟨e, he, q⟩ := List.mem_filterMap.mp hm
    exact nfr (List.mem_filterMap.mpr ⟨e, List.mem_cons_of_mem _ he, q⟩)
  · cases f with
    | ret u =>
      obtain ⟨v, τ, G, J6, q1, q2⟩ := z
      exact ⟨v, τ, G, J6.ofTry ok, q1, q2⟩
    | next =>
      obtain ⟨τ, G, J6, q1⟩ := z
      exact wpAny_execs_nil ⟨τ, G, J6.ofTry ok, q1⟩
    | brk =>
      obtain ⟨τ, G, J6, q1⟩ := z
      exact ⟨τ, G, J6.ofTry ok, q1⟩
    | cont =>
      obtain ⟨τ, G, J6, q1⟩ := z
      exact ⟨τ, G, J6.ofTry ok, q1⟩
end
end Bh

set_option Elab.async false
set_option linter.all false
set_option maxRecDepth 10000
namespace Bh
open PySem PySem.Spec L2 PyProof.Rows
section
variable {M : Md} {n : Nat} {fl : Fl} {sc : Scope} {N : List Str} {Γ : Cg} {X : Cx} {W : WX} {th : Thk} {fb : Env → Sto → RS} {body : List Stmt} {pos : Pos}
theorem gx_suite0 (g : GX M n th fl sc N X Γ W) {a : Addr} {oe : Obj} {pn : List (Addr × Obj)} : GX M n noThk ⟨false, false, false, false⟩ sc N (X.suite a ((a, oe) :: pn)) Γ W0 :=
  { prog := g.prog, w := g.w, K := g.K, mg := g.mg, base := g.base, of := g.of, N := g.N, nd := g.nd, sco := g.sco, cm := fun z => (by cases z), gu := g.gu, un := g.un, tk := LamX.takes0, lm := fun z => (by cases z), ac := fun z => (by cases z), xw := fun z => (by cases z), xi := fun z => (by cases z) }
theorem gs_suite {a : Addr} {oe : Obj} {pn : List (Addr × Obj)} {fl' : Fl} {Γ' : Cg} (gs : GS M n th fl sc N X Γ W) (g : GX M n noThk fl' sc N (X.suite a ((a, oe) :: pn)) Γ' W0) (h : fl'.cm = false) : GS M n noThk fl' sc N (X.suite a ((a, oe) :: pn)) Γ' W0 :=
  ⟨g, fun z => (by rw [h] at z; cases z), gs.st, gs.fr, gs.fn⟩
theorem gs_tr (gs : GS M n th fl sc N X Γ W) {pn : List (Addr × Obj)} {xe : Value → Shared → Prop} {W' : WX} (tk : Takes (X.tr pn xe) W') (hp : PassesOwn (model X.prog X.w) X.A X.env xe) : GS M n th ⟨fl.cm, fl.lm, fl.ac, false⟩ sc N (X.tr pn xe) Γ W' := by
  have g := gs.x
  exact ⟨{ prog := g.prog, w := g.w, K := g.K, mg := g.mg, base := g.base, of := g.of, N := g.N, nd := g.nd, sco := g.sco, cm := g.cm, gu := g.gu, un := g.un, tk := tk, lm := g.lm, ac := g.ac, xw := fun z => (by cases z), xi := fun z => (by cases z) }, fun _ => hp, gs.st, gs.fr, gs.fn⟩
/-- the clauses beside what the evaluator says of them -/
def CP (X : Cx) (Γ : Cg) (W : WX) (hs : List ExceptHandler) (f : Nat → D → Env → Sto → RS) : Prop := ∃ wd : Ends → WX, (X.Ok → ∀ pins E, ClOk X pins E hs (wd E)) ∧
  ∀ (E : Ends) (c : Nat) (w : D) (ρ : Env) (S : Sto) (m : List Addr) (H : Hp) (σ : L2.St) (dx : Addr) (v : V), StOk Γ m S H → EnvOk Γ m H ρ σ → Xd H dx v → dx ∉ m → dx ∉ Γ.hid → Γ.br m H w v → SatS Γ W m H (f c w ρ S) E → wd E (.ref (Γ.cls c)) (some dx) σ H
theorem cp_nil (gs : GS M n th fl sc N X Γ W) : CP X Γ W [] fun c w ρ S => .exn c w ρ S :=
  ⟨fun _ => W, fun _ _ _ => hok_nil gs.st gs.fr gs.x.tk, fun _ _ _ _ _ m H σ dx v st en q1 q2 q3 q4 h => h m H σ dx v Grow.refl st en q1 q2 q3 q4⟩
theorem cp_plain (gs : GS M n th fl sc N X Γ W) (xs : XsOk M) {k : Nat} {x : Str} {b₀ : Stmt} {suite : List Stmt} {np pos' : Pos} {hs : List ExceptHandler} {fh : Env → Sto → RS} {fr : Nat → D → Env → Sto → RS} (hk : M.prg.cls[k]? = some x) (hg : Gl X x)
    (hsu : ∀ (a : Addr) (oe : Obj) (pn : List (Addr × Obj)), PSs (X.suite a ((a, oe) :: pn)) (b₀ :: suite) (rSm Γ W0 fh)) (r : CP X Γ W hs fr) :
    CP X Γ W (.ExceptHandler (some (.Name x np)) none (b₀ :: suite) pos' :: hs) fun c w ρ S => match subP M.prg c k with
    | some true => endN (fh ρ S)
    | some false => fr c w ρ S
    | none => .bad := by
  obtain ⟨wd, r1, r2⟩ := r
  refine ⟨fun D => wCl X.K (M.clv k) (fun a cls d σ H => rSm Γ W0 fh D σ H) (wd D), fun ok pins D => hok_plain (ts := fun _ _ _ => rSm Γ W0 fh) ok (names_of gs.x xs hk hg) (fun a oe cls d pn _ _ => hsu a oe pn) (r1 ok pins D), fun D c w ρ S m H σ dx v st en q1 q2 q3 q4 h => ?_⟩
  cases e : subP M.prg c k with
  | none => simp only [e] at h; exact (show False from h).elim
  | some b =>
    simp only [e] at h
    refine ⟨b, by rw [gs.x.of.cls, gs.x.K]; exact xs.exm c k b e, fun hb a ha => ?_, fun hb => ?_⟩
    · subst hb
      exact ⟨m, S, ρ, st, en, endN_ok h⟩
    · subst hb
      exact r2 D c w ρ S m H σ dx v st en q1 q2 q3 q4 h
theorem cp_as (gs : GS M n th fl sc N X Γ W) (xs : XsOk M) {k j : Nat} {x nm : Str} {b₀ : Stmt} {suite : List Stmt} {np pos' : Pos} {hs : List ExceptHandler} {fh : Env → Sto → RS} {fr : Nat → D → Env → Sto → RS} (hk : M.prg.cls[k]? = some x) (hg : Gl X x) (hi : X.N[j]? = some nm) (hln : X.env.kindOf nm = some .local)
    (hsu : ∀ (a : Addr) (oe : Obj) (pn : List (Addr × Obj)) (c : Nat) (dx : Addr) (l : List Bool), M.prg.sub[c]? = some l → Zc (.ref (Γ.cls c)) (some dx) oe → (∃ vs, oe.data = .fields vs) → PSs (X.suite a ((a, oe) :: pn)) (b₀ :: suite) (rSm (Γ.ex a c dx) W0 fh)) (r : CP X Γ W hs fr) :
    CP X Γ W (.ExceptHandler (some (.Name x np)) (some nm) (b₀ :: suite) pos' :: hs) fun c w ρ S => match subP M.prg c k with
    | some true => endH j (fh ((clean ρ).set j (some (.exc c w))) S)
    | some false => fr c w ρ S
    | none => .bad := by
  obtain ⟨wd, r1, r2⟩ := r
  refine ⟨fun D => wCl X.K (M.clv k) (fun a cls d σ H => ∃ c dx l, M.prg.sub[c]? = some l ∧ cls = .ref (Γ.cls c) ∧ d = some dx ∧ rSm (Γ.ex a c dx) W0 fh (endsA j D) (σ.set j (some (.ref a))) H) (wd D),
    fun ok pins D => hok_as (ts := fun a cls d D σ H => ∃ c dx l, M.prg.sub[c]? = some l ∧ cls = .ref (Γ.cls c) ∧ d = some dx ∧ rSm (Γ.ex a c dx) W0 fh D σ H) ok gs.x.nd hi hln (names_of gs.x xs hk hg) (fun a oe cls d pn hz hf => ⟨fun pins s σ H D I ⟨c, dx, l, h1, h2, h3, h4⟩ => ?_⟩) (r1 ok pins D), fun D c w ρ S m H σ dx v st en q1 q2 q3 q4 h => ?_⟩
  · subst h2 h3
    exact (hsu a oe pn c dx l h1 hz hf).run pins s σ H D I h4
  · cases e : subP M.prg c k with
    | none => simp only [e] at h; exact (show False from h).elim
    | some b =>
      simp only [e] at h
      refine ⟨b, by rw [gs.x.of.cls, gs.x.K]; exact xs.exm c k b e, fun hb a ha => ?_, fun hb => ?_⟩
      · subst hb
        obtain ⟨l, hl⟩ := sub_own e
        refine ⟨c, dx, l, hl, rfl, rfl, m, S, (clean ρ).set j (some (.exc c w)), StOk.re (Γ := Γ) (Γ' := Γ.ex a c dx) rfl rfl rfl st, ?_, ?_⟩
        · have z : EnvOk (Γ.ex a c dx) m H (clean ρ) σ := EnvOk.clean (Γ := Γ) (Γ' := Γ.ex a c dx) rfl rfl rfl rfl rfl en
          exact z.set j ⟨a, dx, v, rfl, ⟨rfl, rfl, rfl⟩, q1, q2, q4⟩
        · exact endH_ok (Γ := Γ) (Γ' := Γ.ex a c dx) rfl rfl rfl rfl rfl rfl rfl h
      · subst hb
        exact r2 D c w ρ S m H σ dx v st en q1 q2 q3 q4 h
/-- try: .. / except ..: .. -/
theorem ps_tyc (gs : GS M n th fl sc N X Γ W) {h0 : ExceptHandler} {hs : List ExceptHandler} {f : Nat → D → Env → Sto → RS}
    (hb : ∀ (W' : WX) (pn : List (Addr × Obj)) (xe : Value → Shared → Prop), Takes (X.tr pn xe) W' → PassesOwn (model X.prog X.w) X.A X.env xe → PSs (X.tr pn xe) body (rSm Γ W' fb)) (r : CP X Γ W (h0 :: hs) f) :
    PS X (.Try body (h0 :: hs) [] [] pos) (rSm Γ W fun ρ S => tryR (fb ρ S) f) := by
  obtain ⟨wd, r1, r2⟩ := r
  refine PS.imp (ps_tryc (tb := fun W' => rSm Γ W' fb) (wd := wd) gs.st gs.fr hb r1) fun D σ H ⟨m, S, ρ, st, en, h⟩ => ⟨m, S, ρ, st, en, ?_⟩
  cases e : fb ρ S with
  | next ρ1 S1 => simp only [e, tryR] at h; exact h
  | ret d S1 => simp only [e, tryR] at h; exact h
  | bad => simp only [e, tryR] at h; exact h
  | exn c w ρ1 S1 =>
    simp only [e, tryR] at h
    exact fun m1 H1 τ dx v g1 st1 en1 q1 q2 q3 q4 => r2 D c w ρ1 S1 m1 H1 τ dx v st1 en1 q1 q2 q3 q4 (SatS.from g1 h)
/-- l[i] = e -/
theorem ps_sx {a i e : Expr} {sp : Pos} {fa fi fe : Env → Sto → R D} (hk : Γ.K = X.K) (ha : PE X a (rE Γ W fa)) (hi : PE X i (rE Γ W fi)) (he : PE X e (rE Γ W fe)) (hn : noSlice i = true) :
    PS X (.Assign [.Subscript a i sp] e pos) (rSm Γ W fun ρ S => (fe ρ S).go ρ fun d S1 => (fa ρ S1).go ρ fun x S2 => (fi ρ S2).go ρ fun y S3 => match x, y with
    | .ref m, .int j => match S3[m]? with
      | some (.lst l) => match L2.ixN l.length j with
        | some k => .next ρ (S3.set m (.lst (l.set k d)))
        | none => .bad
      | _ => .bad
    | _, _ => .bad) := by
  have hg : PG X (.Subscript a i sp) (gSub (rE Γ W fa) (rE Γ W fi) rSetL) := pg_sub ha hi set_list fun v => by cases i <;> first | rfl | cases hn
  refine PS.imp (ps_asg he hg (by cases e <;> rfl) (by rfl) (by rfl)) fun D σ H ⟨m, S, ρ, st, en, h⟩ => ⟨m, S, ρ, st, en, (h.go en).imp fun d m1 S1 H1 g1 st1 h1 v hv => ?_⟩
  refine ⟨m1, S1, ρ, st1, en.grow g1, (h1.go (en.grow g1)).imp fun x m2 S2 H2 g2 st2 h2 o ho => ?_⟩
  have en2 := (en.grow g1).grow g2
  refine ⟨m2, S2, ρ, st2, en2, (h2.go en2).imp fun y m3 S3 H3 g3 st3 h3 u hu => ?_⟩
  have en3 := en2.grow g3
  split at h3
  · rename_i n j
    split at h3
    · rename_i l e
      split at h3
      · rename_i k ek
        simp only [Cg.br, Br] at ho
        obtain ⟨q, hq, rfl⟩ := ho
        have hq3 := g3.at_ hq
        obtain ⟨vs, e1, e2⟩ := st3.lst hq3 e
        have hm : q ∈ m3 := List.mem_of_getElem? hq3
        refine ⟨q, vs, j, k, rfl, brInt hu, e1, by rw [← BrL.length e2]; exact ek, ?_⟩
        have gw : Grow m3 H3 m3 (upd H3 q (.lst (vs.set k v))) := Grow.write hm lst_nt
        exact h3 m3 _ σ gw (st3.write hq3 e (BrL.set k e2 (Br.grow (g2.trans g3) _ _ hv))) (en3.grow gw)
      · exact (show False from h3).elim
    · exact (show False from h3).elim
  · exact (show False from h3).elim
end
end Bh

set_option Elab.async false
set_option linter.all false
set_option maxRecDepth 10000
namespace Bh
open PySem PySem.Spec L2 PyProof.Rows
section
variable {M : Md} {lms : Nat → Bool} {ck : Ck}
noncomputable abbrev exsM (M : Md) (C : Nat → Fns) (s : Sm) (n : Nat) (th : Thk) : Env → Sto → RS := exs (GofM M) (subP M.prg) C M.wf s n th
noncomputable abbrev exssM (M : Md) (C : Nat → Fns) (s : Sms) (n : Nat) (th : Thk) : Env → Sto → RS := exss (GofM M) (subP M.prg) C M.wf s n th
theorem PS.cg {Γ : Cg} {X : Cx} {W : WX} {st : Stmt} {f f' : Env → Sto → RS} (h : PS X st (rSm Γ W f)) (he : ∀ ρ S, f ρ S = f' ρ S) : PS X st (rSm Γ W f') := by
  have : f = f' := funext fun ρ => funext fun S => he ρ S
  rw [← this]
  exact h
theorem sole {t v : Expr} {l : Nat} {env : PySem.Env} : swapsWithSole [t] v l env = swapsWith v (some t) l env := by unfold swapsWithSole; rfl
/-- y = [..] -/
theorem asc_ok (mo : MdOk M lms) (co : CkOk M ck) (C : Nat → Fns) {fl : Fl} {sc : Scope} {N : List Str} {X : Cx} {Γ : Cg} {W : WX} {n : Nat} {th : Thk} (g : GX M n th fl sc N X Γ W) (hC : ∀ j, j ≤ n → C j = callF M.prg M.wf j) (hB : ∀ j, j < n → BodyS M j lms) (hcm : fl.cm = true) (hf : funB sc = true) {tg : Tg} {e : Ex} {y : Str} {py cpos pos : Pos} {elt : Expr} {gens : List Comprehension} {scope : Scope}
    (ht : tgB sc N true tg (.Name y py) = true) (he : okE ck false fl sc N e (.ListComp elt gens scope cpos) = true) (hs : swB sc scope y py cpos = true) : PS X (.Assign [.Name y py] (.ListComp elt gens scope cpos) pos) (rSm Γ W fun ρ S => (ev (GofM M) (subP M.prg) C e n th ρ S).go ρ fun d S1 => match setTg tg d ρ with
    | some ρ' => .next ρ' S1
    | none => .bad) := by
  cases tg with
  | nm i =>
    simp only [tgB, nmB, Bool.and_eq_true, decide_eq_true_eq] at ht
    have hyl : X.env.scope.names.lookup y = some .local := by
      unfold swB at hs
      simp only [Bool.and_eq_true, decide_eq_true_eq] at hs
      rw [g.sco]
      exact hs.1.1
    have hsw : swapsWith (.ListComp elt gens scope cpos) (some (.Name y py)) pos.line X.env = pure true := by rw [sw_is g.sco hf, hs]
    cases e with
    | comp mu el tg it conds =>
      unfold okE at he
      rw [Bool.and_eq_true] at he
      obtain ⟨hpl, he⟩ := he
      split at he
      · rename_i elt' tg' iter ifs scope' pos' q
        cases q
        simp only [Bool.and_eq_true, decide_eq_true_eq] at he
        obtain ⟨⟨⟨⟨⟨⟨⟨⟨h0, h1⟩, h2⟩, h3⟩, h4⟩, h5⟩, h6⟩, h7⟩, h8⟩ := he
        have hi := okIt_ok mo co C it fl sc N tg' iter h5 X Γ W n th g hC hB
        have blk : BlkOk X.N X.env.scope scope (ownOf tg tg') := by rw [g.N, g.sco]; exact blkOk_by h1
        have hg : ∀ (s : Shared) (H : Hp) (C : Addr) (cl : List (Str × Addr)) (fp : List Addr), PG (X.blk s H scope (compEnvC scope cl C X.env) fp) tg' (rG Γ tg) := fun s H C' cl fp => tg_ok' (X := X.blk s H scope (compEnvC scope cl C' X.env) fp) (N := N) (sc := relS scope sc) g.hk g.N g.nd (gx_blk g [] s H scope C' cl fp).sco (g.cm h0).1 h3 (fun z => by cases z)
        have he : ∀ (s : Shared) (H : Hp) (C' : Addr) (cl : List (Str × Addr)) (fp : List Addr), PE (X.blk s H scope (compEnvC scope cl C' X.env) fp) elt (exE Γ (ev (GofM M) (subP M.prg) C el n th)) := fun s H C' cl fp => ⟨fun pins s' σ H' Q I ⟨l, hq⟩ => (show PE _ _ _ from okE_ok mo co C el false _ _ N elt h6 _ (Γ.h l) W0 n th (gx_blk g l s H scope C' cl fp) hC hB).run pins s' σ H' Q I hq⟩
        have ht' : ∀ (s : Shared) (H : Hp) (C' : Addr) (cl : List (Str × Addr)) (fp : List Addr), PTs (X.blk s H scope (compEnvC scope cl C' X.env) fp) ifs (exB Γ (evAll (GofM M) (subP M.prg) C conds n th)) := fun s H C' cl fp =>
          ⟨fun pins s' σ H' Q I ⟨l, hq⟩ => ((okEs_ok mo co C conds true _ _ N ifs h8 _ (Γ.h l) W0 n th (gx_blk g l s H scope C' cl fp) hC hB).tst rfl h7).run pins s' σ H' Q I hq⟩
        refine PS.cg (ps_asc (i := i) mu (g.cm hcm).1 g.nd (by rw [g.N]; exact ht.1.1) hyl hsw hi blk (fun j => by rw [h2]) hg ht' he (set_of h4)) fun ρ S => ?_
        simp only [ev]
        rfl
      · cases he
    | compc mu el tg ic conds =>
      unfold okE at he
      rw [Bool.and_eq_true] at he
      obtain ⟨hpl, he⟩ := he
      split at he
      · rename_i elt' tg' x px ifs scope' pos' q
        cases q
        simp only [Bool.and_eq_true, decide_eq_true_eq] at he
        obtain ⟨⟨⟨⟨⟨⟨⟨⟨⟨h0, h1⟩, h2⟩, h3⟩, h4⟩, h4b⟩, h5⟩, h6⟩, h7⟩, h8⟩ := he
        obtain ⟨n1, n2⟩ := nd_of h5
        have blk : BlkOk X.N X.env.scope scope (ownOf tg tg') := by rw [g.N, g.sco]; exact blkOk_by h1
        have hg : ∀ (s : Shared) (H : Hp) (C : Addr) (cl : List (Str × Addr)) (fp : List Addr), PG (X.blk s H scope (compEnvC scope cl C X.env) fp) tg' (rG Γ tg) := fun s H C' cl fp => tg_ok' (X := X.blk s H scope (compEnvC scope cl C' X.env) fp) (N := N) (sc := relS scope sc) g.hk g.N g.nd (gx_blk g [] s H scope C' cl fp).sco (g.cm h0).1 h3 (fun z => by cases z)
        have he : ∀ (s : Shared) (H : Hp) (C' : Addr) (cl : List (Str × Addr)) (fp : List Addr), PE (X.blk s H scope (compEnvC scope cl C' X.env) fp) elt (exE Γ (ev (GofM M) (subP M.prg) C el n th)) := fun s H C' cl fp => ⟨fun pins s' σ H' Q I ⟨l, hq⟩ => (show PE _ _ _ from okE_ok mo co C el false _ _ N elt h6 _ (Γ.h l) W0 n th (gx_blk g l s H scope C' cl fp) hC hB).run pins s' σ H' Q I hq⟩
        have ht' : ∀ (s : Shared) (H : Hp) (C' : Addr) (cl : List (Str × Addr)) (fp : List Addr), PTs (X.blk s H scope (compEnvC scope cl C' X.env) fp) ifs (exB Γ (evAll (GofM M) (subP M.prg) C conds n th)) := fun s H C' cl fp =>
          ⟨fun pins s' σ H' Q I ⟨l, hq⟩ => ((okEs_ok mo co C conds true _ _ N ifs h8 _ (Γ.h l) W0 n th (gx_blk g l s H scope C' cl fp) hC hB).tst rfl h7).run pins s' σ H' Q I hq⟩
        refine PS.cg (ps_ascc (i := i) g.hk mu (g.cm hcm).1 g.nd (by rw [g.N]; exact ht.1.1) hyl hsw (by rw [g.N]; exact h4) (by rw [g.sco]; exact vis_of h4b) n1 n2 blk (fun j => by rw [h2]) hg ht' he) fun ρ S => ?_
        simp only [ev]
        rfl
      · cases he
    | comp2 mu el tg it conds tg1 it1 conds1 =>
      unfold okE at he
      rw [Bool.and_eq_true] at he
      obtain ⟨hpl, he⟩ := he
      split at he
      · rename_i elt' tg' iter ifs tg1' iter1 ifs1 scope' pos' q
        cases q
        simp only [Bool.and_eq_true, decide_eq_true_eq] at he
        obtain ⟨⟨⟨⟨⟨⟨⟨⟨⟨⟨h0, h1⟩, h2, h2b⟩, h3, h3b⟩, h4, h4b⟩, h5⟩, h5b⟩, h6⟩, h7, h7b⟩, h8⟩, h9⟩ := he
        have hi := okIt_ok mo co C it fl sc N tg' iter h5 X Γ W n th g hC hB
        have blk : BlkOk X.N X.env.scope scope (ownOf tg tg' ++ ownOf tg1 tg1') := by rw [g.N, g.sco]; exact blkOk_by h1
        have hgg : ∀ {tq : Tg} {te : Expr}, tgB (relS scope sc) N false tq te = true → ∀ (s : Shared) (H : Hp) (C : Addr) (cl : List (Str × Addr)) (fp : List Addr), PG (X.blk s H scope (compEnvC scope cl C X.env) fp) te (rG Γ tq) := fun {tq te} hq s H C' cl fp => tg_ok' (X := X.blk s H scope (compEnvC scope cl C' X.env) fp) (N := N) (sc := relS scope sc) g.hk g.N g.nd (gx_blk g [] s H scope C' cl fp).sco (g.cm h0).1 hq (fun z => by cases z)
        have hi1 : ∀ (s : Shared) (H : Hp) (C' : Addr) (cl : List (Str × Addr)) (fp : List Addr), PI (X.blk s H scope (compEnvC scope cl C' X.env) fp) tg1' iter1 (exI Γ (evIt (GofM M) (subP M.prg) C it1 n th)) := fun s H C' cl fp => ⟨fun pins s' σ H' R I ⟨l, hq⟩ => (okIt_ok mo co C it1 _ _ N tg1' iter1 h5b _ (Γ.h l) W0 n th (gx_blk g l s H scope C' cl fp) hC hB).run pins s' σ H' R I hq⟩
        have he : ∀ (s : Shared) (H : Hp) (C' : Addr) (cl : List (Str × Addr)) (fp : List Addr), PE (X.blk s H scope (compEnvC scope cl C' X.env) fp) elt (exE Γ (ev (GofM M) (subP M.prg) C el n th)) := fun s H C' cl fp => ⟨fun pins s' σ H' Q I ⟨l, hq⟩ => (show PE _ _ _ from okE_ok mo co C el false _ _ N elt h6 _ (Γ.h l) W0 n th (gx_blk g l s H scope C' cl fp) hC hB).run pins s' σ H' Q I hq⟩
        have htt : ∀ {cs : Exs} {es : List Expr}, okEs ck true ⟨fl.cm, fl.lm, false, false⟩ (relS scope sc) N cs es = true → es.length ≤ 1 → ∀ (s : Shared) (H : Hp) (C' : Addr) (cl : List (Str × Addr)) (fp : List Addr), PTs (X.blk s H scope (compEnvC scope cl C' X.env) fp) es (exB Γ (evAll (GofM M) (subP M.prg) C cs n th)) := fun {cs es} hq hl s H C' cl fp =>
          ⟨fun pins s' σ H' Q I ⟨l, hq'⟩ => ((okEs_ok mo co C cs true _ _ N es hq _ (Γ.h l) W0 n th (gx_blk g l s H scope C' cl fp) hC hB).tst rfl hl).run pins s' σ H' Q I hq'⟩
        refine PS.cg (ps_asc2 (i := i) mu (g.cm hcm).1 g.nd (by rw [g.N]; exact ht.1.1) hyl hsw hi blk (fun j => by rw [List.map_append, List.mem_append, h2, h2b]) (hgg h3) (htt h8 h7) hi1 (hgg h3b) (htt h9 h7b) he (set_of h4) (fun env x => set_of h4b x)) fun ρ S => ?_
        simp only [ev]
        rfl
      · cases he
    | callB bf l =>
      unfold okE at he
      rw [Bool.and_eq_true] at he
      have he := he.2
      cases hq : isQ bf with
      | some t =>
        rw [hq] at he
        dsimp only at he
        split at he <;> first | contradiction | cases he
      | none =>
        rw [hq] at he
        dsimp only at he
        first | (cases he; done) | (split at he <;> first | contradiction | cases he)
    | _ => simp [okE] at he
  | _ => simp [tgB] at ht
theorem split_nm {es : List Expr} {is : List Nat} {sc : Scope} {N : List Str} {x : Str} {p : Pos} (h : nmsB sc N is (.Name x p :: es) = true) : ∃ i r, is = i :: r ∧ N[i]? = some x ∧ nmsB sc N r es = true := by
  cases is with
  | nil => simp [nmsB] at h
  | cons i r =>
    simp only [nmsB, nmB, Bool.and_eq_true, decide_eq_true_eq] at h
    exact ⟨i, r, rfl, h.1.1, h.2⟩
theorem nms_nil {is : List Nat} {sc : Scope} {N : List Str} (h : nmsB sc N is [] = true) : is = [] := by
  cases is with
  | nil => rfl
  | cons i r => simp [nmsB] at h
theorem par_asg (mo : MdOk M lms) (co : CkOk M ck) (C : Nat → Fns) {fl : Fl} {sc : Scope} {N : List Str} {X : Cx} {Γ : Cg} {W : WX} {n : Nat} {th : Thk} (gs : GS M n th fl sc N X Γ W) (hC : ∀ j, j ≤ n → C j = callF M.prg M.wf j) (hB : ∀ j, j < n → BodyS M j lms) (hcm : fl.cm = true) {is : List Nat} {es : Exs} {ts vs : List Expr} {k k2 : Nat} {p p2 pos : Pos}
    (hn : nmsB sc N is ts = true) (he : okEs ck false fl sc N es vs = true) (hl : vs.length ≤ 1000) (hw : swappedStores [.Tuple ts k p] (.Tuple vs k2 p2) X.env = pure none) : PS X (.Assign [.Tuple ts k p] (.Tuple vs k2 p2) pos) (rSm Γ W (exsM M C (.par is es) n th)) := by
  have h1 := pe_tupp (k := k2) (pos := p2) hl (fun ρ S l S' e => evs_len he e) ((okEs_ok mo co C es false fl sc N _ he X Γ W n th gs.x hC hB).arg rfl)
  have h2 : PG X (.Tuple ts k p) (rG Γ (.tp is)) := tg_ok' gs.x.hk gs.x.N gs.x.nd gs.x.sco (gs.x.cm hcm).1 (all := true) (by simp only [tgB, hn, Bool.true_or, Bool.and_true]) fun _ => gs.fn
  refine PS.cg (ps_as (pos := pos) h1 h2 (sole.trans sw_tup) hw rfl) fun ρ S => ?_
  simp only [exsM, exs]
  cases evs (GofM M) (subP M.prg) C es n th ρ S with
  | ok xs S1 => rfl
  | exn c w S1 => rfl
  | bad => rfl
set_option maxHeartbeats 4000000
mutual
theorem okS_ok (mo : MdOk M lms) (co : CkOk M ck) (xs : XsOk M) (C : Nat → Fns) : ∀ (s : Sm) (fl : Fl) (sc : Scope) (N : List Str) (st : Stmt), okS ck fl sc N s st = true → ∀ (X : Cx) (Γ : Cg) (W : WX) (n : Nat) (th : Thk), GS M n th fl sc N X Γ W → (∀ x, X.fn x = true) →
    (∀ j, j ≤ n → C j = callF M.prg M.wf j) → (∀ j, j < n → BodyS M j lms) → PS X st (rSm Γ W (exsM M C s n th))
  | .expr e, fl, sc, N, st, h, X, Γ, W, n, th, gs, hf, hC, hB => by
    unfold okS at h
    split at h
    · simp only [Bool.and_eq_true] at h
      exact ps_ex (okE_ok mo co C e false fl sc N _ h.2 X Γ W n th gs.x hC hB) (sw_no h.1)
    · cases h
  | .asg tg e, fl, sc, N, st, h, X, Γ, W, n, th, gs, hf, hC, hB => by
    unfold okS at h
    split at h
    · rename_i tg' e' pos
      rw [Bool.or_eq_true] at h
      rcases h with h | h
      case inr =>
        split at h
        · rename_i i x px
          simp only [nmB, Bool.and_eq_true, decide_eq_true_eq] at h
          obtain ⟨⟨⟨⟨k1, k2⟩, k3⟩, k4⟩, k5⟩ := h
          exact ps_as (okE_ok mo co C e false fl sc N e' k5 X Γ W n th gs.x hC hB) (pg_nm gs.x.nd (by rw [gs.x.N]; exact k1) (by rw [gs.x.sco]; exact loc_of k2) (.inr (by rw [gs.x.sco]; exact k3))) (sole.trans (sw_no k4)) (by rfl) (by rfl)
        · cases h
      simp only [Bool.and_eq_true] at h
      obtain ⟨⟨⟨⟨h0, h1⟩, h2⟩, h3⟩, h4⟩ := h
      have he := okE_ok mo co C e false fl sc N e' h3 X Γ W n th gs.x hC hB
      have hg : PG X tg' (rG Γ tg) := tg_ok' gs.x.hk gs.x.N gs.x.nd gs.x.sco (gs.x.cm h0).1 h2 fun _ => hf
      split at h4
      · rename_i y py elt gens scope cpos
        cases q : swB sc scope y py cpos with
        | true => exact asc_ok mo co C gs.x hC hB h0 h1 h2 h3 q
        | false => exact ps_as he hg (sole.trans (by rw [sw_is gs.x.sco h1, q])) (by rfl) (by rfl)
      · exact ps_as he hg (sole.trans (sw_no h4)) (by rfl) (by rfl)
      · exact ps_as he hg (sole.trans sw_tup) (st_no h4) (by rfl)
      · cases h4
    · cases h
  | .par is es, fl, sc, N, st, h, X, Γ, W, n, th, gs, hf, hC, hB => by
    unfold okS at h
    split at h
    · simp only [Bool.and_eq_true] at h
      obtain ⟨⟨⟨h0, h1⟩, h2⟩, h3⟩ := h
      rw [Bool.or_eq_true] at h1
      rcases h1 with h1 | h1
      case inr => exact par_asg mo co C gs hC hB h0 h2 h3 (by simp) (st_cf (ns := [(_, _), (_, _)]) gs.x.sco h1)
      obtain ⟨i, r, rfl, n1, h2⟩ := split_nm h2
      obtain ⟨j, r, rfl, n2, h2⟩ := split_nm h2
      cases nms_nil h2
      have sw := fun (kt k2 : Nat) (pt pt2 : Pos) => st_2 (kt := kt) (k2 := k2) (pt := pt) (pt2 := pt2) (sc := sc) gs.x.sco h1
      unfold parB at h1
      simp only [Bool.and_eq_true, List.all_cons, List.all_nil, decide_eq_true_eq, List.map_cons, List.map_nil, Bool.and_true] at h1
      have nd := h1.1.1.2
      have l1 := h1.1.1.1.2.1.1
      have l2 := h1.1.1.1.2.2.1
      refine ps_pr (gs.x.cm h0).1 gs.x.nd (by rw [gs.x.N]; exact n1) (by rw [gs.x.N]; exact n2) (fun z => ?_) (by rw [gs.x.sco]; exact l1) (by rw [gs.x.sco]; exact l2) ((okEs_ok mo co C es false fl sc N _ h3 X Γ W n th gs.x hC hB).arg rfl) (sw _ _ _ _) (sole.trans sw_tup)
      subst z
      rw [n1] at n2
      have z := Option.some.inj n2
      subst z
      simp at nd
    · simp only [Bool.and_eq_true] at h
      obtain ⟨⟨⟨h0, h1⟩, h2⟩, h3⟩ := h
      rw [Bool.or_eq_true] at h1
      rcases h1 with h1 | h1
      case inr => exact par_asg mo co C gs hC hB h0 h2 h3 (by simp) (st_cf (ns := [(_, _), (_, _), (_, _)]) gs.x.sco h1)
      obtain ⟨i, r, rfl, n1, h2⟩ := split_nm h2
      obtain ⟨j, r, rfl, n2, h2⟩ := split_nm h2
      obtain ⟨l, r, rfl, n3, h2⟩ := split_nm h2
      cases nms_nil h2
      have sw := fun (kt k2 : Nat) (pt pt2 : Pos) => st_3 (kt := kt) (k2 := k2) (pt := pt) (pt2 := pt2) (sc := sc) gs.x.sco h1
      unfold parB at h1
      simp only [Bool.and_eq_true, List.all_cons, List.all_nil, decide_eq_true_eq, List.map_cons, List.map_nil, Bool.and_true] at h1
      have nd := h1.1.1.2
      have l1 := h1.1.1.1.2.1.1
      have l2 := h1.1.1.1.2.2.1.1
      have l3 := h1.1.1.1.2.2.2.1
      have ne : ∀ {i j : Nat} {x y : Str}, N[i]? = some x → N[j]? = some y → x ≠ y → i ≠ j := fun a b c z => by
        subst z
        rw [a] at b
        exact c (Option.some.inj b)
      simp only [List.nodup_cons, List.mem_cons, List.not_mem_nil, or_false, not_or, List.nodup_nil, and_true, not_false_eq_true] at nd
      exact ps_pr3 (gs.x.cm h0).1 gs.x.nd (by rw [gs.x.N]; exact n1) (by rw [gs.x.N]; exact n2) (by rw [gs.x.N]; exact n3) (ne n1 n2 nd.1.1) (ne n1 n3 nd.1.2) (ne n2 n3 nd.2) (by rw [gs.x.sco]; exact l1) (by rw [gs.x.sco]; exact l2) (by rw [gs.x.sco]; exact l3) ((okEs_ok mo co C es false fl sc N _ h3 X Γ W n th gs.x hC hB).arg rfl) (sw _ _ _ _) (sole.trans sw_tup)
    · cases h
  | .setIx a i e, fl, sc, N, st, h, X, Γ, W, n, th, gs, hf, hC, hB => by
    unfold okS at h
    split at h
    · simp only [Bool.and_eq_true] at h
      obtain ⟨⟨⟨⟨⟨h0, h1⟩, h2⟩, h3⟩, h4⟩, h5⟩ := h
      exact ps_sx gs.x.hk (okE_ok mo co C a false fl sc N _ h3 X Γ W n th gs.x hC hB) (okE_ok mo co C i false fl sc N _ h4 X Γ W n th gs.x hC hB) (okE_ok mo co C e false fl sc N _ h5 X Γ W n th gs.x hC hB) h2
    · cases h
  | .if_ c t e, fl, sc, N, st, h, X, Γ, W, n, th, gs, hf, hC, hB => by
    unfold okS at h
    split at h
    · simp only [Bool.and_eq_true] at h
      exact ps_iff (okE_ok mo co C c true fl sc N _ h.1.1 X Γ W n th gs.x hC hB) (okSs_ok mo co xs C t fl sc N _ h.1.2 X Γ W n th gs hf hC hB) (okSs_ok mo co xs C e fl sc N _ h.2 X Γ W n th gs hf hC hB)
    · cases h
  | .for_ tg it b, fl, sc, N, st, h, X, Γ, W, n, th, gs, hf, hC, hB => by
    unfold okS at h
    split at h
    · simp only [Bool.and_eq_true] at h
      obtain ⟨⟨⟨⟨h0, h1⟩, h2⟩, h3⟩, h4⟩ := h
      exact ps_fr (gs.pw h0) (gs.x.cm h0).1 (okIt_ok mo co C it fl sc N _ _ h3 X Γ W n th gs.x hC hB) (tg_ok' gs.x.hk gs.x.N gs.x.nd gs.x.sco (gs.x.cm h0).1 h1 fun _ => hf) (okSs_ok mo co xs C b fl sc N _ h4 X Γ W n th gs hf hC hB) (set_of h2)
    · cases h
  | .forc tg i b, fl, sc, N, st, h, X, Γ, W, n, th, gs, hf, hC, hB => by
    unfold okS at h
    split at h
    · simp only [Bool.and_eq_true, decide_eq_true_eq] at h
      obtain ⟨⟨⟨⟨⟨h0, h1⟩, h2⟩, h3⟩, h5⟩, h4⟩ := h
      obtain ⟨n1, n2⟩ := nd_of h5
      refine PS.cg (ps_frc gs.x.hk (gs.pw h0) (gs.x.cm h0).1 (by rw [gs.x.N]; exact h2) (by rw [gs.x.sco]; exact vis_of h3) n1 n2 (tg_ok' gs.x.hk gs.x.N gs.x.nd gs.x.sco (gs.x.cm h0).1 h1 fun _ => hf) (okSs_ok mo co xs C b fl sc N _ h4 X Γ W n th gs hf hC hB)) fun ρ S => ?_
      simp only [exsM, exs] <;> rfl
    · cases h
  | .while_ c b, fl, sc, N, st, h, X, Γ, W, n, th, gs, hf, hC, hB => by
    unfold okS at h
    split at h
    · simp only [Bool.and_eq_true] at h
      obtain ⟨⟨h0, h1⟩, h2⟩ := h
      exact ps_wh M.wf (gs.pw h0) (okE_ok mo co C c true fl sc N _ h1 X Γ W n th gs.x hC hB) (okSs_ok mo co xs C b fl sc N _ h2 X Γ W n th gs hf hC hB)
    · cases h
  | .ret e, fl, sc, N, st, h, X, Γ, W, n, th, gs, hf, hC, hB => by
    unfold okS at h
    split at h
    · exact ps_rt (okE_ok mo co C e false fl sc N _ h X Γ W n th gs.x hC hB)
    · cases h
  | .retN, fl, sc, N, st, h, X, Γ, W, n, th, gs, hf, hC, hB => by
    unfold okS at h
    split at h
    · exact ps_rtN
    · cases h
  | .raise c e, fl, sc, N, st, h, X, Γ, W, n, th, gs, hf, hC, hB => by
    unfold okS at h
    split at h
    · simp only [Bool.and_eq_true, decide_eq_true_eq, co.P] at h
      obtain ⟨⟨⟨⟨⟨h0, h1⟩, h2⟩, h3⟩, h4⟩, h5⟩ := h
      exact ps_rse gs.x h0 xs (l := M.prg.sub[c]) (by simp [h2]) h1 (gl_of gs.x.sco h3) (okE_ok mo co C e false fl sc N _ h5 X Γ W n th gs.x hC hB) (star_of h4)
    · cases h
  | .try_ b h', fl, sc, N, st, h, X, Γ, W, n, th, gs, hf, hC, hB => by
    unfold okS at h
    split at h
    · rename_i b' hs' pos
      simp only [Bool.and_eq_true] at h
      obtain ⟨⟨h0, h1⟩, h2⟩ := h
      have hb : ∀ (W' : WX) (pn : List (Addr × Obj)) (xe : Value → Shared → Prop), Takes (X.tr pn xe) W' → PassesOwn (model X.prog X.w) X.A X.env xe → PSs (X.tr pn xe) b' (rSm Γ W' (exssM M C b n th)) := fun W' pn xe tk hp => okSs_ok mo co xs C b ⟨fl.cm, fl.lm, fl.ac, false⟩ sc N _ h1 (X.tr pn xe) Γ W' n th (gs_tr gs tk hp) hf hC hB
      have cp := okH_ok mo co xs C h' fl sc N hs' h2 X Γ W n th gs hf hC hB
      cases hs' with
      | nil => cases h0
      | cons h0 r => exact ps_tyc gs hb cp
    · cases h
  | .pass, fl, sc, N, st, h, X, Γ, W, n, th, gs, hf, hC, hB => by
    unfold okS at h
    split at h
    · exact ps_ps
    · cases h
theorem okSs_ok (mo : MdOk M lms) (co : CkOk M ck) (xs : XsOk M) (C : Nat → Fns) : ∀ (s : Sms) (fl : Fl) (sc : Scope) (N : List Str) (sts : List Stmt), okSs ck fl sc N s sts = true → ∀ (X : Cx) (Γ : Cg) (W : WX) (n : Nat) (th : Thk), GS M n th fl sc N X Γ W → (∀ x, X.fn x = true) →
    (∀ j, j ≤ n → C j = callF M.prg M.wf j) → (∀ j, j < n → BodyS M j lms) → PSs X sts (rSm Γ W (exssM M C s n th))
  | .nil, fl, sc, N, sts, h, X, Γ, W, n, th, gs, hf, hC, hB => by
    simp only [okSs, List.isEmpty_iff] at h
    subst h
    exact pss_non
  | .cons a l, fl, sc, N, sts, h, X, Γ, W, n, th, gs, hf, hC, hB => by
    unfold okSs at h
    split at h
    · simp only [Bool.and_eq_true] at h
      exact pss_more (okS_ok mo co xs C a fl sc N _ h.1 X Γ W n th gs hf hC hB) (okSs_ok mo co xs C l fl sc N _ h.2 X Γ W n th gs hf hC hB)
    · cases h
theorem okH_ok (mo : MdOk M lms) (co : CkOk M ck) (xs : XsOk M) (C : Nat → Fns) : ∀ (h' : Hds) (fl : Fl) (sc : Scope) (N : List Str) (hs : List ExceptHandler), okH ck fl sc N h' hs = true → ∀ (X : Cx) (Γ : Cg) (W : WX) (n : Nat) (th : Thk), GS M n th fl sc N X Γ W → (∀ x, X.fn x = true) →
    (∀ j, j ≤ n → C j = callF M.prg M.wf j) → (∀ j, j < n → BodyS M j lms) → CP X Γ W hs fun c w ρ S => hds (GofM M) (subP M.prg) C M.wf h' n c w ρ S
  | .nil, fl, sc, N, hs, h, X, Γ, W, n, th, gs, hf, hC, hB => by
    simp only [okH, List.isEmpty_iff] at h
    subst h
    exact cp_nil gs
  | .cons k i b l, fl, sc, N, hs, h, X, Γ, W, n, th, gs, hf, hC, hB => by
    unfold okH at h
    split at h
    · rename_i j x np nm b₀ su pos' r
      simp only [Bool.and_eq_true, decide_eq_true_eq, co.P] at h
      obtain ⟨⟨⟨⟨⟨h1, h2⟩, h3⟩, h4⟩, h5⟩, h6⟩ := h
      exact cp_as (fh := exssM M C b n noThk) gs xs h1 (gl_of gs.x.sco h2) (by rw [gs.x.N]; exact h3) (by unfold PySem.Env.kindOf; rw [gs.x.sco]; exact h4)
        (fun a oe pn c dx l hl hz hfs => okSs_ok mo co xs C b ⟨false, false, false, true⟩ sc N _ h5 _ (Γ.ex a c dx) W0 n noThk (gs_suite gs (gx_suite gs.x xs hl hz hfs) rfl) hf hC hB) (okH_ok mo co xs C l fl sc N _ h6 X Γ W n th gs hf hC hB)
    · rename_i x np b₀ su pos' r
      simp only [Bool.and_eq_true, decide_eq_true_eq, co.P] at h
      obtain ⟨⟨⟨h1, h2⟩, h5⟩, h6⟩ := h
      exact cp_plain (fh := exssM M C b n noThk) gs xs h1 (gl_of gs.x.sco h2)
        (fun a oe pn => okSs_ok mo co xs C b ⟨false, false, false, false⟩ sc N _ h5 _ Γ W0 n noThk (gs_suite gs (gx_suite0 gs.x) rfl) hf hC hB) (okH_ok mo co xs C l fl sc N _ h6 X Γ W n th gs hf hC hB)
    · cases h
end
/-- all bodies at all levels -/
theorem bodies (mo : MdOk M lms) (co : CkOk M ck) (xs : XsOk M) (chk : ∀ f d, M.prg.defs[f]? = some d → okSs ck ⟨true, lms f, true, false⟩ (M.fds f).scope (M.fds f).N d.body (M.fds f).body = true) : ∀ j, BodyS M j lms := fun j => by
  induction j using Nat.strongRecOn with
  | ind j ih =>
    intro f d th X Γ W hd gs
    exact okSs_ok mo co xs (tab M.prg M.wf j) d.body ⟨true, lms f, true, false⟩ _ _ _ (chk f d hd) X Γ W j th gs gs.fn (fun i hi => tab_eq M.prg M.wf hi) fun i hi => ih i hi
theorem fns (mo : MdOk M lms) (co : CkOk M ck) (xs : XsOk M) (chk : ∀ f d, M.prg.defs[f]? = some d → okSs ck ⟨true, lms f, true, false⟩ (M.fds f).scope (M.fds f).N d.body (M.fds f).body = true) (k : Nat) {f : Nat} {d : Def} (hd : M.prg.defs[f]? = some d) : Fn M k f := fn_at mo (fun j _ => bodies mo co xs chk j) hd
end
end Bh

set_option Elab.async false
set_option linter.all false
set_option maxRecDepth 10000
namespace Bh
open PySem PySem.Spec L2 PyProof.Rows
/-! ### from the head to the law -/
section
variable {P : Program} {w : World} {K : PySem.W.Frag} {mg mb : Str → Option Value} {fa a : Addr} {tb : List (Addr × Addr)} {s : Shared} {vs : List Value} {ns : List Int}
theorem bh_call (KX : K.In s.heap) (hns : s.heap.Ns mainGlobals mg) (hb : s.heap.Ns builtinsNs mb) (hbb : ∀ x : Str, x ≠ "__name__" → mb x = bootBuiltins x) (hlim : s.heap.NoLimit) (hg : s.gens = #[]) (tE : ∀ q ∈ tb, s.heap.get? q.2 = some { cls := .none, data := .fields #[] }) (tN : ∀ q ∈ tb, K.lookup q.2 = none)
    (tC : ∀ q ∈ tb, PySem.W.CodeHd s.heap q.1 q.2) (hbm : ∃ (bm : Addr) (ob : Obj), mg "__builtins__" = some (.ref bm) ∧ bm ≠ builtinsNs ∧ s.heap.get? bm = some ob ∧ ob.cls = .type "module" ∧ ob.dict = some builtinsNs ∧ ob.data = .plain)
    (ha : s.heap.get? a = some { cls := .type "list", data := .seq vs.toArray }) (hi : IntsAre vs ns) (hl : ns.length ≤ sizeLine)
    (F : ∀ (base : Heap) (H : Hp), K.In base → base.Ns mainGlobals mg → (∀ q ∈ tb, LamX.TabB base mg q.1 q.2) → Env0 P w K mg base callerA [] s H → (∀ q ∈ tb, H q.2 = some (.tbl #[])) → ((∃ o, H a = some (.frz o (.lst (ns.map V.int)))) ∨ SqL K noH a (ns.map V.int)) →
      codeAny (model P w) callerA (.call (.ref fa) ⟨[.ref a], []⟩) (CR (L2.CX P w) [] P w H s (fun v _ => v = .bl true) fun _ _ _ => False) s) :
    codeAny (model P w) callerA (.call (.ref fa) ⟨[.ref a], []⟩) (fun r s' => r = .ok (.ret (.bool true)) ∧ OldK s.heap s'.heap ∧ s'.os = s.os ∧ AllBare s'.gens) s := by
  have vInts := vals_ints hi
  have len := hi.length
  let isTb : Addr → Prop := fun b => ∃ q ∈ tb, q.2 = b
  have tbAt : ∀ b, isTb b → s.heap.get? b = some { cls := .none, data := .fields #[] } := fun b ⟨q, h, e⟩ => by rw [← e]; exact tE q h
  have aNot : ¬ isTb a := fun z => by
    have q := tbAt a z
    rw [ha] at q
    exact nomatch (show Data.seq vs.toArray _ = Data.fields #[] from congrArg Obj.data (Option.some.inj q))
  -- what is tracked: the tables, perhaps the script
  have main : ∀ H : Hp, (∀ q ∈ tb, H q.2 = some (.tbl #[])) → (∀ b, H b = none ∨ isTb b ∨ (b = a ∧ ∃ o xs, H b = some (.frz o (.lst xs)))) → ((∃ o, H a = some (.frz o (.lst (ns.map V.int)))) ∨ SqL K noH a (ns.map V.int)) → HOk P w H s.heap → (H a ≠ none → K.lookup a = none) →
      codeAny (model P w) callerA (.call (.ref fa) ⟨[.ref a], []⟩) (fun r s' => r = .ok (.ret (.bool true)) ∧ OldK s.heap s'.heap ∧ s'.os = s.os ∧ AllBare s'.gens) s := by
    intro H h1 h2 h3 ok h4
    have other : ∀ {b : Addr} {o : Obj}, s.heap.get? b = some o → (∀ xs n, o.data ≠ .seq xs n) → o.data ≠ .fields #[] → H b = none := fun {b o} e d1 d2 => by
      rcases h2 b with z | z | ⟨z, _⟩
      · exact z
      · rw [tbAt b z] at e
        cases e
        exact absurd rfl d2
      · rw [z, ha] at e
        cases e
        exact absurd rfl (d1 _ _)
    have keepNs : ∀ {b : Addr} {m : Str → Option Value}, s.heap.Ns b m → (hidT s.heap H).Ns b m := fun {b m} ⟨o, es, ep, e, d, r⟩ => ⟨o, es, ep, hidT_get e (other e (fun xs n z => by rw [d] at z; cases z) fun z => by rw [d] at z; cases z), d, r⟩
    have kIn : K.In (hidT s.heap H) := fun b o e => hidT_get (KX b o e) (by
      rcases h2 b with z | ⟨q, hq, z⟩ | ⟨z, o', xs, e'⟩
      · exact z
      · rw [← z, tN q hq] at e
        cases e
      · rw [z] at e e'
        rw [h4 (by rw [e']; simp)] at e
        cases e)
    have md : L2.Mod K mg (hidT s.heap H) := ⟨kIn, keepNs hns, ⟨mb, keepNs hb, hbb⟩, let ⟨mc, k1, k2⟩ := hlim; ⟨mc, keepNs k1, k2⟩⟩
    have tB : ∀ q ∈ tb, LamX.TabB (hidT s.heap H) mg q.1 q.2 := fun q hq => by
      refine ⟨?_, ?_, fun z => ?_⟩
      · obtain ⟨o, us, file, tf, flags, tg, inF, text, tt, e1, r1, r2, r3, r4, r5, r6, r7, r8, hne⟩ := tC q hq
        exact ⟨o, us, file, tf, flags, tg, inF, text, tt, hidT_get e1 (other e1 (fun xs n z => by rw [r2] at z; cases z) fun z => by
          rw [r2] at z
          cases z
          simp at r3), r1, r2, r3, r4, r5, r6, r7, r8, hne⟩
      · obtain ⟨bm, ob, b1, b2, b3, b4, b5, b6⟩ := hbm
        refine ⟨bm, ob, b1, b2, fun z => ?_, fun z => ?_, hidT_get b3 (other b3 (fun xs n z => by rw [b6] at z; cases z) fun z => by rw [b6] at z; cases z), b4, b5, b6⟩
        · obtain ⟨o, es, ep, e, d, _⟩ := hns
          rw [z, e] at b3
          cases b3
          rw [d] at b6
          cases b6
        · rw [z, tE q hq] at b3
          cases b3
          cases b6
      · obtain ⟨o, es, ep, e, d, _⟩ := hns
        rw [z, tE q hq] at e
        cases e
        cases d
    have e0 : Env0 P w K mg (hidT s.heap H) callerA [] s H := ⟨rfl, md, fun b o e => of_hidT e, Nat.le_of_eq (hidT_size _ _), trivial, fun b z => (nomatch (show b ∈ ([] : List Addr) from z)), ok, .of_eq hg⟩
    refine codeAny_mono (F _ H kIn (keepNs hns) tB e0 h1 h3) fun r s' hr => ?_
    match r, hr with
    | .error e, ⟨_, _, _, _, _, _, _, _, _, _, _, _, z⟩ => exact z.elim
    | .ok (.ret u), ⟨v, H', os, bare, un, ok', rv, q⟩ =>
      have q : v = .bl true := q
      subst q
      obtain rfl : u = Value.bool true := rv
      have stay : ∀ b o, ¬ isTb b → s.heap.get? b = some o → s'.heap.get? b = some o := fun b o nb e => by
        rcases h2 b with z | z | ⟨z, ob, xs, z2⟩
        · exact un.keep b o e z (fun y => nomatch (show b ∈ ([] : List Addr) from y)) (by simp)
        · exact absurd z nb
        · obtain ⟨q1, _⟩ := ok b _ z2
          obtain ⟨q2, _⟩ := ok' b _ (un.frzs b ob _ z2)
          rw [e] at q1
          cases q1
          exact q2
      have tall : ∀ q ∈ tb, ∃ more : Array Value, s'.heap.get? q.2 = some { cls := .none, data := .fields more } := fun q hq => by
        obtain ⟨more, z⟩ := un.tbls q.2 #[] (h1 q hq)
        exact ⟨_, ok' q.2 _ z⟩
      refine ⟨rfl, ⟨fun b o e => ?_, fun b o e => ?_⟩, os, bare⟩
      · by_cases hb' : isTb b
        · obtain ⟨q, hq, eq⟩ := hb'
          obtain ⟨more, hm⟩ := tall q hq
          subst eq
          rw [tE q hq] at e
          cases e
          exact .inr (.inl ⟨((tC q hq).tab (tE q hq)).isCodeTable, rfl, #[], more, rfl, by rw [Array.empty_append]; exact hm⟩)
        · exact .inl (stay b o hb' e)
      · by_cases hb' : isTb b
        · obtain ⟨q, hq, eq⟩ := hb'
          obtain ⟨more, hm⟩ := tall q hq
          subst eq
          exact ⟨_, hm⟩
        · exact ⟨o, stay b o hb' e⟩
  classical
  cases hk : K.lookup a with
  | some o =>
    have e := KX a o hk
    rw [ha] at e
    cases e
    have at_ : ∀ b, (if isTb b then some (HO.tbl #[]) else none) ≠ none → isTb b := fun b z => by
      by_cases q : isTb b
      · exact q
      · exact absurd (if_neg q) z
    refine main (fun b => if isTb b then some (.tbl #[]) else none) (fun q hq => if_pos ⟨q, hq, rfl⟩) (fun b => ?_) (.inr (.inr ⟨_, vs.toArray, _, hk, rfl, rfl, rfl, by rw [List.size_toArray, len]; exact hl, by simpa using vInts⟩)) (fun b u z => ?_) fun z => absurd (at_ a z) aNot
    · by_cases q : isTb b
      · exact .inr (.inl q)
      · exact .inl (if_neg q)
    · have zz : (if isTb b then some (HO.tbl #[]) else none) = some u := z
      have hq := at_ b (by rw [zz]; simp)
      have z' := (if_pos hq).symm.trans z
      cases z'
      exact tbAt b hq
  | none =>
    refine main (fun b => if b = a then some (.frz { cls := .type "list", data := .seq vs.toArray } (.lst (ns.map V.int))) else if isTb b then some (.tbl #[]) else none) (fun q hq => ?_) (fun b => ?_) (.inl ⟨{ cls := .type "list", data := .seq vs.toArray }, if_pos rfl⟩) (fun b u z => ?_) fun _ => hk
    · exact (if_neg fun z => aNot ⟨q, hq, z⟩).trans (if_pos ⟨q, hq, rfl⟩)
    · by_cases q : b = a
      · exact .inr (.inr ⟨q, _, _, if_pos q⟩)
      · by_cases q2 : isTb b
        · exact .inr (.inl q2)
        · exact .inl ((if_neg q).trans (if_neg q2))
    · by_cases q : b = a
      · have z' := (if_pos q).symm.trans z
        cases z'
        subst q
        exact ⟨ha, by rw [List.length_map]; exact hl, vs, _, vInts, ha⟩
      · have z1 := (if_neg q).symm.trans z
        by_cases q2 : isTb b
        · have z' := (if_pos q2).symm.trans z1
          cases z'
          exact tbAt b q2
        · have z' := (if_neg q2).symm.trans z1
          cases z'
end
end Bh

set_option Elab.async false
set_option linter.all false
set_option maxRecDepth 10000
namespace Bh
open PySem PySem.Spec L2 PyProof.Rows
/-! ### the module from its text -/
structure Tx where
  prg : Prg
  sts : List Stmt
  ini : Stmt
  qi : Str
  tyn : Nat → String
  bl : List Str
  gc : Bool
  tf : List Str
def Tx.cl (T : Tx) (k : Nat) : Str := T.prg.cls.getD k ""
def Tx.no (T : Tx) : Nat := T.prg.sub.length
def clvOf (T : Tx) (K : PySem.W.Frag) (k : Nat) : Value := if k < T.no then .ref (He.ga K (T.cl k)) else .type (T.tyn k)
def oexB (K : PySem.W.Frag) (C : Addr) : Bool := match K.lookup C with
  | some ⟨.type t, _, .cls cd, sl⟩ => decide (t = "type") && (match cd.mro with
    | .ref C' :: bm => decide (C' = C) && HandSPX.refsVE bm
    | _ => false) && cd.hasDict && !cd.hasDel && (match sl.toList with
    | [_, _, _, _, some (.builtin n), _] => decide (n = "ValueError.__new__")
    | _ => false)
  | _ => false
theorem oexB_ok {K : PySem.W.Frag} {C : Addr} (h : oexB K C = true) : ∃ nm q N bs bm sn sub ab col dd k0 k1 k2 k3 k5, K.lookup C = some (excClassObj nm q C N bs bm true sn sub ab col dd k0 k1 k2 k3 k5 "ValueError.__new__") ∧ PySem.HandSPX.refsVE bm = true := by
  unfold oexB at h
  split at h
  · rename_i t dd cd sl e
    simp only [Bool.and_eq_true, decide_eq_true_eq, Bool.not_eq_true'] at h
    obtain ⟨⟨⟨⟨rfl, h2⟩, h3⟩, h4⟩, h5⟩ := h
    split at h2
    · rename_i C' bm em
      simp only [Bool.and_eq_true, decide_eq_true_eq] at h2
      obtain ⟨rfl, h2⟩ := h2
      split at h5
      · rename_i k0 k1 k2 k3 n k5 es
        have h5 := of_decide_eq_true h5
        subst h5
        obtain ⟨nm, bs, mro, ns, qn, hd, sn, sub, ab, col, del⟩ := cd
        simp only at em h3 h4
        subst em h3 h4
        have hsl : sl = #[k0, k1, k2, k3, some (.builtin "ValueError.__new__"), k5] := by
          obtain ⟨l⟩ := sl
          simp only at es
          rw [es]
        subst hsl
        exact ⟨nm, qn, ns, bs, bm, sn, sub, ab, col, dd, k0, k1, k2, k3, k5, e, h2⟩
      · cases h5
    · cases h2
  · cases h
def xnB (K : PySem.W.Frag) (C : Addr) : Bool := decide (PySem.W.findIn K (.ref C) "kind" = some none) && (PySem.W.readsIn K C (.type "type") && ((match PySem.W.findCls K (.ref C) (.type "type") "__name__" with | some (.get g a o tp) => decide (g = .builtin "getset_descriptor.__get__") && (decide (a = .builtin "type.__name__") && (decide (o = .ref C) && decide (tp = .type "type"))) | _ => false) && (match nmIn K C with | some (.str _ _) => true | _ => false)))
def excB (K : PySem.W.Frag) (C : Addr) : Bool :=
  oexB K C && (decide (PySem.W.findIn K (.ref C) "__setattr__" = some (some (.builtin "object.__setattr__"))) && (decide (PySem.W.subIn K (.ref C) (.type "BaseException") = some true) && (decide (PySem.W.typeIn K (.ref C) = some (.type "type")) && (PySem.W.keepIn K (.ref C) &&
    (decide (PySem.W.findIn K (.ref C) "__init__" = some (some (.ref (He.ma K C "__init__")))) && (decide (PySem.W.typeIn K (.ref (He.ma K C "__init__")) = some (.type "function")) && (xfB K C && (decide (PySem.W.findIn K (.ref C) "what" = some none) && ((PySem.W.clsIn K C).isSome &&
    (decide (PySem.W.findIn K (.ref C) "__class__" = some (some (.builtin "object.__class__"))) && (decide (PySem.W.specialIn K (.builtin "object.__class__") "__get__" = some (some (.builtin "getset_descriptor.__get__"))) && (decide (PySem.W.takesIn K (.builtin "object.__class__") = some true) && (decide (PySem.W.mroIn K C (.type "object") = some true) && xnB K C)))))))))))))
def pairB (T : Tx) (K : PySem.W.Frag) (c k : Nat) : Bool := match subP T.prg c k with
  | some b => decide (PySem.W.exmOne K (.ref (He.ga K (T.cl c))) (clvOf T K k) = some b) && decide (PySem.W.kitOne K (.ref (He.ga K (T.cl c))) (clvOf T K k) = some b)
  | none => true
def exOf0 (T : Tx) (K : PySem.W.Frag) : Bool := ((List.range T.no).all fun c => excB K (He.ga K (T.cl c))) && (((List.range T.no).all fun c => (List.range T.prg.cls.length).all fun k => pairB T K c k) && decide ((T.tf.map fun x => (He.cT K (x, none)).2).Nodup))
def gcB (T : Tx) (K : PySem.W.Frag) : Bool := !T.gc || He.eqO (PySem.W.nsIn K mainGlobals "gcd") (some (some (.builtin "math.gcd")))
def exOf (T : Tx) (K : PySem.W.Frag) : Bool := exOf0 T K && gcB T K
def ddOf (d : Def) (st : Stmt) : He.DefD := ⟨(d.name, none), d.name, d.name, defArgs st, defBody st, defScope st, [], []⟩
def iniD (T : Tx) (c : Nat) : He.DefD := ⟨(T.cl c, some "__init__"), "__init__", T.qi, defArgs T.ini, defBody T.ini, defScope T.ini, [], []⟩
def fnOf' (T : Tx) : List He.DefD := (T.prg.defs.zip T.sts).map (fun p => ddOf p.1 p.2) ++ (List.range T.no).map (iniD T)
def faOf (T : Tx) : List He.Fa := T.prg.defs.map (fun d => .glo d.name) ++ ((List.range T.no).map (fun c => .glo (T.cl c)) ++ (T.bl.map .free ++ T.prg.globs.map fun g => .int g.1 g.2))
/-- plain parameters -/
def parB' (a : Arguments) (ps : List Str) : Bool := match a with
  | ⟨[], as, none, [], [], none, []⟩ => decide (as.map (·.arg) = ps) && decide ps.Nodup
  | _ => false
/-- what the text must keep -/
def txB (T : Tx) : Bool :=
  decide (T.sts.length = T.prg.defs.length) && ((T.prg.defs.zip T.sts).all fun p => parB' (defArgs p.2) (p.1.N.take p.1.np) && C8.scC p.1.N (p.1.N.take p.1.np) (defScope p.2) && decide (p.1.np ≤ p.1.N.length) && okSs ⟨T.prg, T.bl, T.gc⟩ ⟨true, decide (p.1.name ∈ T.tf), true, false⟩ (defScope p.2) p.1.N p.1.body (defBody p.2)) &&
    decide (T.no ≤ T.prg.cls.length) && (T.prg.cls.all fun x => ndB x) && ((List.range T.prg.cls.length).all fun k => decide (k < T.no) || decide (T.cl k ∈ T.bl)) && (T.prg.globs.all fun g => decide (g.1 ≠ "__name__")) && (T.prg.sub.all fun l => decide (l.length ≤ T.prg.cls.length))
theorem zip_lk : ∀ {ns : List Str} {us : List Value} {n : Str}, us.length = ns.length → n ∈ ns → ((ns.zip us).lookup n).isNone = false
  | [], _, _, _, h => by cases h
  | m :: ns, [], _, h, _ => by simp at h
  | m :: ns, u :: us, n, h, hm => by
    show (((m, u) :: ns.zip us).lookup n).isNone = false
    rw [List.lookup_cons]
    by_cases e : n = m
    · simp [e]
    · have : (n == m) = false := by simpa using e
      rw [this]
      exact zip_lk (by simpa using h) ((List.mem_cons.mp hm).resolve_left e)
theorem fm_congr {α β : Type} {f g : α → Option β} : ∀ {l : List α}, (∀ n ∈ l, f n = g n) → l.filterMap f = l.filterMap g
  | [], _ => rfl
  | a :: l, h => by
    rw [List.filterMap_cons, List.filterMap_cons, h a (List.mem_cons_self ..), fm_congr fun n hn => h n (List.mem_cons_of_mem _ hn)]
theorem zip_fm : ∀ {ns : List Str} {us : List Value}, us.length = ns.length → ns.Nodup → ns.filterMap (fun n => ((ns.zip us).lookup n).map fun x => (n, x)) = ns.zip us
  | [], [], _, _ => rfl
  | [], _ :: _, _, _ => rfl
  | m :: ns, [], h, _ => by simp at h
  | m :: ns, u :: us, h, hn => by
    obtain ⟨h1, h2⟩ := List.nodup_cons.mp hn
    have ih := zip_fm (ns := ns) (us := us) (by simpa using h) h2
    show (m :: ns).filterMap (fun n => (((m, u) :: ns.zip us).lookup n).map fun x => (n, x)) = (m, u) :: ns.zip us
    have e0 : ((m, u) :: ns.zip us).lookup m = some u := by rw [List.lookup_cons]; simp
    rw [List.filterMap_cons, e0]
    dsimp only [Option.map_some]
    congr 1
    refine Eq.trans (fm_congr fun n hm => ?_) ih
    have ne : (n == m) = false := by
      have : n ≠ m := fun e => h1 (by rw [← e]; exact hm)
      simpa using this
    rw [List.lookup_cons, ne]
theorem bind_par {nm qn : Str} {body : List Stmt} {scope : Scope} {kV doc pm cdv ct : Value} {an : Option Addr} (as : List Arg) (us : List Value) (hl : us.length = as.length) (hn : (as.map (·.arg)).Nodup) : bindArgs (PySem.W.fnOf nm qn ⟨[], as, none, [], [], none, []⟩ body scope .none kV doc pm an cdv ct) ⟨us, []⟩ = pure ((as.map (·.arg)).zip us) := by
  have hl' : us.length = (as.map (·.arg)).length := by simpa using hl
  have key : (as.map (·.arg)).filter (fun n => (((as.map (·.arg)).zip us).lookup n).isNone) = [] := by
    rw [List.filter_eq_nil_iff]
    intro n hn
    rw [zip_lk hl' hn]
    simp
  have ns : notAStandIn Value.none = pure () := rfl
  have fm := zip_fm hl' hn
  unfold bindArgs PySem.W.fnOf
  simp only [List.map_nil, List.nil_append, seqItems?, ns]
  have tk : ∀ {k : Nat}, (as.map (·.arg)).length ≤ k → List.take k (as.map (·.arg)) = as.map (·.arg) := fun h => List.take_of_length_le h
  simp [hl, ← List.map_take]
  have e1 : List.take ((List.map (fun x => x.arg) as).length - (List.drop ((#[] : Array Value).size - (List.map (fun x => x.arg) as).length) ([] : List Value)).length) (List.map (fun x => x.arg) as) = List.map (fun x => x.arg) as := List.take_of_length_le (by simp)
  refine (if_neg ?_).trans ?_
  · rw [e1, key]
    simp
  · rw [← List.filterMap_map, fm]
/-- all parameters by name, one or two of them -/
theorem bind_kw {nm qn : Str} {body : List Stmt} {scope : Scope} {kV doc pm cdv ct : Value} {an : Option Addr} (as : List Arg) (us : List Value) (hl : us.length = as.length) (h2 : us.length ≤ 2) (hn : (as.map (·.arg)).Nodup) : bindArgs (PySem.W.fnOf nm qn ⟨[], as, none, [], [], none, []⟩ body scope .none kV doc pm an cdv ct) ⟨[], (as.map (·.arg)).zip us⟩ = pure ((as.map (·.arg)).zip us) := by
  have ns : notAStandIn Value.none = pure () := rfl
  match as, us, hl, h2 with
  | [], [], _, _ =>
    unfold bindArgs PySem.W.fnOf
    simp [seqItems?, ns]
  | [a], [u], _, _ =>
    unfold bindArgs PySem.W.fnOf
    simp [seqItems?, ns]
  | [a, b], [u, v], _, _ =>
    simp only [List.map_cons, List.map_nil, List.nodup_cons, List.mem_singleton, List.not_mem_nil, not_false_eq_true, List.nodup_nil, and_true] at hn
    have e1 : (b.arg == a.arg) = false := by simpa using fun z => hn z.symm
    unfold bindArgs PySem.W.fnOf
    simp [seqItems?, ns, List.lookup_cons, e1]
  | _ :: _ :: _ :: _, us, hl, h2 =>
    simp only [List.length_cons] at hl
    omega
section
variable {T : Tx} {P : Program} {w : World} {K : PySem.W.Frag} {mg : Str → Option Value} {h : Heap}
abbrev tbOf (T : Tx) (K : PySem.W.Frag) : List (Addr × Addr) := T.tf.map fun x => He.cT K (x, none)
abbrev TOf (T : Tx) (K : PySem.W.Frag) : List (Addr × Str) := T.tf.map fun x => ((He.cT K (x, none)).2, (x ++ ".<locals>.") ++ "<lambda>")
abbrev SaysTx (T : Tx) (w : World) (h : Heap) (K : PySem.W.Frag) : Prop := He.SaysX (faOf T) (fnOf' T) [] (T.tf.map fun x => (x, none)) (exOf T) w h K
theorem says_d (c : SaysTx T w h K) : He.SaysD (faOf T) (fnOf' T) K := congrArg (fun z : He.AlT => z.1) c.t
def lmsOf (T : Tx) (f : Nat) : Bool := match T.prg.defs[f]? with
  | some d => decide (d.name ∈ T.tf)
  | none => false
/-- a def's data -/
theorem fd_of (hx : txB T = true) (c : SaysTx T w h K) (X : K.In h) (G : h.Ns mainGlobals mg) {f : Nat} {d : Def} (hd : T.prg.defs[f]? = some d) : ∃ (F : Fd) (st : Stmt), T.sts[f]? = some st ∧ F.body = defBody st ∧ F.scope = defScope st ∧ K.lookup F.a = some ⟨F.oc, F.od, .func F.fd, F.osl⟩ ∧ PySem.W.codeIn K F.cdv F.name = true ∧ PySem.W.keepIn K (.ref F.a) = true ∧ mg F.name = some (.ref F.a) ∧ F.a = He.fAd K (d.name, none) ∧
    FnScope F.N F.ps F.scope ∧ Bd K F.fd F.ps ∧ d.name = F.name ∧ d.N = F.N ∧ d.np = F.ps.length ∧ okSs ⟨T.prg, T.bl, T.gc⟩ ⟨true, lmsOf T f, true, false⟩ F.scope F.N d.body F.body = true := by
  unfold txB at hx
  simp only [Bool.and_eq_true, decide_eq_true_eq, List.all_eq_true] at hx
  obtain ⟨⟨⟨⟨⟨⟨h1, h2⟩, _⟩, _⟩, _⟩, _⟩, _⟩ := hx
  have hf : f < T.prg.defs.length := (List.getElem?_eq_some_iff.mp hd).1
  obtain ⟨st, hst⟩ : ∃ st, T.sts[f]? = some st := ⟨T.sts[f]'(by rw [h1]; exact hf), by simp [h1, hf]⟩
  have hz : (T.prg.defs.zip T.sts)[f]? = some (d, st) := by rw [List.getElem?_zip_eq_some]; exact ⟨hd, hst⟩
  have hm := List.mem_of_getElem? hz
  have q := h2 _ hm
  dsimp only at q
  obtain ⟨⟨⟨q1, q2⟩, q3⟩, q4⟩ := q
  have hD : ddOf d st ∈ fnOf' T := List.mem_append_left _ (List.mem_map.mpr ⟨(d, st), hm, rfl⟩)
  obtain ⟨fd, FD⟩ := He.SaysD.defs (says_d c) hD
  have FD : FunD K d.name d.name (defArgs st) (defBody st) (defScope st) [] [] (He.fAd K (d.name, none)) fd := FD
  have hg : mg d.name = some (.ref (He.fAd K (d.name, none))) := He.glo_ok X G (He.SaysD.facts (says_d c) (f := .glo d.name) (List.mem_append_left _ (List.mem_map.mpr ⟨d, List.mem_of_getElem? hd, rfl⟩)))
  have kp := FD.kp
  have bd : Binds K fd (d.N.take d.np) [] := FD.bindsN fun kV doc pm an cdv ct us hl => by
    revert q1
    cases defArgs st with
    | mk pos as va ko kd kw df =>
      intro q1
      unfold parB' at q1
      split at q1
      · rename_i e
        cases e
        simp only [Bool.and_eq_true, decide_eq_true_eq] at q1
        obtain ⟨e1, e2⟩ := q1
        rw [← e1] at hl e2 ⊢
        exact bind_par _ us (by rw [hl, List.length_map]) e2
      · cases q1
  have bk : ∀ (s : Shared) (ws : List Value), K.In s.heap → ws.length = (d.N.take d.np).length → ws.length ≤ 2 → BindsTo s fd ⟨[], (d.N.take d.np).zip ws⟩ ((d.N.take d.np).zip ws) := by
    obtain ⟨oc, od, dV, kV, doc, pm, an, cdv, ct, osl, rfl, lk, hcd, hD, _⟩ := FD.ex
    rcases hD with ⟨_, rfl⟩ | ⟨e, _⟩
    · intro s ws _ hl h2'
      refine .of_eq ?_
      revert q1
      cases defArgs st with
      | mk pos as va ko kd kw df =>
        intro q1
        unfold parB' at q1
        split at q1
        · rename_i e
          cases e
          simp only [Bool.and_eq_true, decide_eq_true_eq] at q1
          obtain ⟨e1, e2⟩ := q1
          rw [← e1] at hl e2 ⊢
          exact bind_kw _ ws (by rw [hl, List.length_map]) h2' e2
        · cases q1
    · exact absurd rfl e
  have bd : Bd K fd (d.N.take d.np) := ⟨bd, bk⟩
  obtain ⟨oc, od, dV, kV, doc, pm, an, cdv, ct, osl, rfl, lk, hcd, _, _⟩ := FD.ex
  refine ⟨⟨He.fAd K (d.name, none), d.name, defArgs st, defBody st, defScope st, dV, kV, doc, pm, cdv, ct, oc, an, od, osl, d.N, d.N.take d.np⟩, st, hst, rfl, rfl, lk, hcd, kp, hg, rfl, C8.fnScope_by q2, bd, rfl, rfl, ?_, ?_⟩
  · show d.np = (d.N.take d.np).length
    rw [List.length_take]
    have : d.np ≤ d.N.length := q3
    omega
  · have e : lmsOf T f = decide (d.name ∈ T.tf) := by unfold lmsOf; rw [hd]
    rw [e]
    exact q4
end
end Bh

set_option Elab.async false
set_option linter.all false
set_option maxRecDepth 100000
/-! the head's hook, the table of the interpreter's own statics among what is looked at -/
namespace Bh
open PySem PySem.Spec L2 PyProof.Rows
def lk (g : Addr → Option Obj) (n : Nat) : List Addr := He.asD g n ++ [cStatics]
section
variable {n : Nat} {fa : List He.Fa} {fn : List He.DefD} {tf : List He.Defn} {ex : PySem.W.Frag → Bool} {w : World} {h : Heap} {as : List Addr}
theorem says_at (e1 : He.obsT fa fn [] (He.frT h.get? as) = He.valT fn [] w) (e2 : (ex (He.frT h.get? as) && He.tabsB h.get? tf (He.frT h.get? as)) = true) : He.SaysX fa fn [] tf ex w h (He.frT h.get? as) := by
  obtain ⟨k1, k2⟩ := Bool.and_eq_true_iff.mp e2
  have T : ∀ p ∈ tf, PySem.W.codeHdIn (He.frT h.get? as) (He.cT (He.frT h.get? as) p).1 (He.cT (He.frT h.get? as) p).2 = true ∧ ∃ o, h.get? (He.cT (He.frT h.get? as) p).2 = some o ∧ He.emptyTab o = true := by
    intro p hp
    obtain ⟨u1, u2⟩ := Bool.and_eq_true_iff.mp (List.all_eq_true.mp k2 p hp)
    split at u2
    · rename_i o q
      exact ⟨u1, o, q, u2⟩
    · cases u2
  refine ⟨e1, k1, fun p hp => (T p hp).1, fun p hp => ?_, fun p hp => ?_⟩
  · obtain ⟨o, q, z⟩ := (T p hp).2
    exact He.frT_none q z
  · obtain ⟨o, q, z⟩ := (T p hp).2
    exact q.trans (congrArg some (He.emptyTab_eq z))
end
def obS (n : Nat) (fa : List He.Fa) (fn : List He.DefD) (tf : List He.Defn) (ex : PySem.W.Frag → Bool) (g : Addr → Option Obj) : He.AlX :=
  (He.obsT fa fn [] (He.frT g (lk g n)), ex (He.frT g (lk g n)) && He.tabsB g tf (He.frT g (lk g n)))
def hookS (n : Nat) (fa : List He.Fa) (fn : List He.DefD) (tf : List He.Defn) (ex : PySem.W.Frag → Bool) : PySem.W.Hook where
  α := He.AlX
  val := fun w => He.valX fn [] w
  obs := fun s => obS n fa fn tf ex s.heap.get?
  says := fun w h => ∃ K, PySem.W.Frag.In K h ∧ He.SaysX fa fn [] tf ex w h K
  of := fun w s e => ⟨He.frT s.heap.get? (lk s.heap.get? n), He.frT_in, says_at (congrArg Prod.fst e) (congrArg Prod.snd e)⟩
  keeps := fun _ _ _ z k => z.elim fun K q => ⟨K, q.1.keeps k, { t := q.2.t, more := q.2.more, hd := q.2.hd, out := q.2.out, empty := fun p hp => k _ _ (q.2.empty p hp) }⟩
theorem obS_eq {n : Nat} {fa : List He.Fa} {fn : List He.DefD} {tf : List He.Defn} {ex : PySem.W.Frag → Bool} {g : Addr → Option Obj} {s : Shared} (h : ∀ a, g a = s.heap.get? a) : obS n fa fn tf ex g = (hookS n fa fn tf ex).obs s := by
  cases (funext h : g = s.heap.get?)
  rfl
end Bh

set_option Elab.async false
set_option linter.all false
set_option maxRecDepth 10000
namespace Bh
open PySem PySem.Spec L2 PyProof.Rows
theorem nodup_inj {α β : Type} {f : α → β} : ∀ {l : List α}, (l.map f).Nodup → ∀ {x y : α}, x ∈ l → y ∈ l → f x = f y → x = y
  | [], _, _, _, hx, _, _ => by cases hx
  | a :: l, hn, x, y, hx, hy, e => by
    obtain ⟨h1, h2⟩ := List.nodup_cons.mp hn
    rcases List.mem_cons.mp hx with q1 | q1
    · rcases List.mem_cons.mp hy with q2 | q2
      · rw [q1, q2]
      · exact absurd (List.mem_map.mpr ⟨y, q2, by rw [← e, q1]⟩) h1
    · rcases List.mem_cons.mp hy with q2 | q2
      · exact absurd (List.mem_map.mpr ⟨x, q1, by rw [e, q2]⟩) h1
      · exact nodup_inj h2 q1 q2 e
/-- __init__ of the module's root class -/
structure IniOk (st : Stmt) : Prop where
  body : ∃ p1 p2 p3 p4 q1 q2 q3 q4 q5 q6, defBody st = [.Assign [.Attribute (.Name "self" p1) "what" p2] (.Name "what" p3) p4, .Assign [.Attribute (.Name "self" q1) "kind" q2] (.Attribute (.Attribute (.Name "self" q3) "__class__" q4) "__name__" q5) q6]
  sc : FnScope ["self", "what"] ["self", "what"] (defScope st)
  ps : parB' (defArgs st) ["self", "what"] = true
  l1 : (defScope st).names.lookup ("self" : Str) = some NameKind.local
  l2 : (defScope st).names.lookup ("what" : Str) = some NameKind.local
theorem xnB_ok {K : PySem.W.Frag} {C : Addr} (h : xnB K C = true) : PySem.W.findIn K (.ref C) "kind" = some none ∧ PySem.W.readsIn K C (.type "type") = true ∧ PySem.W.findCls K (.ref C) (.type "type") "__name__" = some (.get (.builtin "getset_descriptor.__get__") (.builtin "type.__name__") (.ref C) (.type "type")) ∧ ∃ z t, nmIn K C = some (.str z t) := by
  unfold xnB at h
  simp only [Bool.and_eq_true, decide_eq_true_eq] at h
  obtain ⟨h1, h2, h3, h4⟩ := h
  refine ⟨h1, h2, ?_, ?_⟩
  · split at h3
    · rename_i e
      simp only [Bool.and_eq_true, decide_eq_true_eq] at h3
      obtain ⟨rfl, rfl, rfl, rfl⟩ := h3
      exact e
    · cases h3
  · split at h4
    · rename_i e
      exact ⟨_, _, e⟩
    · cases h4
section
variable {P : Program} {w : World} {K : PySem.W.Frag} {mg : Str → Option Value} {base : Heap}
theorem bind_of {nm qn : Str} {args : Arguments} {body : List Stmt} {scope : Scope} {ps : List Str} {f : Addr} {fd : FuncData} (F : FunD K nm qn args body scope [] [] f fd) (q : parB' args ps = true) : Binds K fd ps [] := F.bindsN fun kV doc pm an cdv ct us hl => by
  revert q
  cases args with
  | mk pos as va ko kd kw df =>
    intro q
    unfold parB' at q
    split at q
    · rename_i e
      cases e
      simp only [Bool.and_eq_true, decide_eq_true_eq] at q
      obtain ⟨e1, e2⟩ := q
      rw [← e1] at hl e2 ⊢
      exact bind_par _ us (by rw [hl, List.length_map]) e2
    · cases q
theorem ini_ok {st : Stmt} (h : IniOk st) {C f : Addr} {fd : FuncData} {nm qn : Str} (F : FunD K nm qn (defArgs st) (defBody st) (defScope st) [] [] f fd) (T : OexC K C) (T2 : XfC K C) (T3 : XnC K C) (wh : PySem.W.findIn K (.ref C) "what" = some none) (kn : PySem.W.findIn K (.ref C) "kind" = some none) : FnOk P w K mg base (L2.CX P w) 1 f fd ["self", "what"] (spI C) := by
  refine F.ok h.sc (fun vs H Q E hs => ?_) fun cdv A outer s H vs Q E hr hs => ?_
  · obtain ⟨a, v, rfl, _⟩ := hs
    rfl
  · obtain ⟨p1, p2, p3, p4, q1, q2, q3, q4, q5, q6, e⟩ := h.body
    obtain ⟨a, v, rfl, h1, h2⟩ := hs
    rw [e]
    refine ⟨_, pss_cons (ps_ost (pe_var (i := 0) rfl (.inl h.l1)) (pe_var (i := 1) rfl (.inl h.l2))) (pss_one (ps_ost (pe_var (i := 0) rfl (.inl h.l1)) (pe_kind (pe_var (i := 0) rfl (.inl h.l1))))), ?_⟩
    refine ⟨v, rfl, .ref a, rfl, a, C, rfl, T, wh, .inl ⟨h1, fun dx n1 n2 => ?_⟩⟩
    have ea : (upd (upd H dx (exd dx [("what", v)])) a (exo a C (some dx))) a = some (exo a C (some dx)) := upd_same
    have ed : (upd (upd H dx (exd dx [("what", v)])) a (exo a C (some dx))) dx = some (exd dx [("what", v)]) := by rw [upd_ne n2, upd_same]
    refine ⟨.ref a, rfl, a, C, dx, [("what", v)], rfl, T, T2, T3, ea, ed, fun z => ?_⟩
    refine ⟨.ref a, rfl, a, C, rfl, T, kn, .inr ⟨dx, [("what", v)], ea, ed, Nat.le_of_ble_eq_true rfl, ?_⟩⟩
    have e2 : upd (upd (upd H dx (exd dx [("what", v)])) a (exo a C (some dx))) dx (exd dx [("kind", V.str z), ("what", v)]) = upd (upd H dx (exd dx [("kind", V.str z), ("what", v)])) a (exo a C (some dx)) := by
      funext b
      by_cases k1 : b = dx
      · rw [k1, upd_same, upd_ne n2, upd_same]
      · rw [upd_ne k1]
        by_cases k2 : b = a
        · rw [k2, upd_same, upd_same]
        · rw [upd_ne k2, upd_ne k1, upd_ne k2, upd_ne k1]
    rw [e2]
    exact h2 dx [("kind", V.str z), ("what", v)] n1 n2 (by rfl)
end
section
variable {T : Tx} {P : Program} {w : World} {K : PySem.W.Frag} {mg : Str → Option Value} {h : Heap}
theorem tx_parts (hx : txB T = true) : T.no ≤ T.prg.cls.length ∧ True ∧ (∀ x ∈ T.prg.cls, ndB x = true) ∧ (∀ k, k < T.prg.cls.length → k < T.no ∨ T.cl k ∈ T.bl) ∧ (∀ l ∈ T.prg.sub, l.length ≤ T.prg.cls.length) := by
  unfold txB at hx
  simp only [Bool.and_eq_true, decide_eq_true_eq, List.all_eq_true, Bool.not_eq_true', Bool.or_eq_true, List.mem_range] at hx
  exact ⟨hx.1.1.1.1.2, True.intro, hx.1.1.1.2, hx.1.1.2, hx.2⟩
theorem cl_at {k : Nat} {x : Str} (e : T.prg.cls[k]? = some x) : T.cl k = x := by
  unfold Tx.cl
  rw [List.getD_eq_getElem?_getD, e]
  rfl
/-- the module's classes -/
theorem xs_of (hx : txB T = true) (hty : ∀ k x, T.no ≤ k → T.prg.cls[k]? = some x → bootBuiltins x = some (.type (T.tyn k)) ∧ x ≠ "__name__") (hi : IniOk T.ini) (c : SaysTx T w h K) (X : K.In h) (G : h.Ns mainGlobals mg) {M : Md} (eP : M.prg = T.prg) (eK : M.K = K) (eg : M.mg = mg) (ec : ∀ k, M.cls k = He.ga K (T.cl k)) (ev : ∀ k, M.clv k = clvOf T K k) : XsOk M := by
  obtain ⟨h1, h2, h3, h4, h5⟩ := tx_parts hx
  have more := (Bool.and_eq_true_iff.mp (show (exOf0 T K && gcB T K) = true from c.more)).1
  unfold exOf0 at more
  simp only [Bool.and_eq_true, List.all_eq_true, List.mem_range] at more
  obtain ⟨m1, m2, m3⟩ := more
  have glo : ∀ k, k < T.no → mg (T.cl k) = some (.ref (He.ga K (T.cl k))) := fun k hk => He.glo_ok X G (He.SaysD.facts (says_d c) (f := .glo (T.cl k)) (List.mem_append_right _ (List.mem_append_left _ (List.mem_map.mpr ⟨k, List.mem_range.mpr hk, rfl⟩))))
  have fre : ∀ x ∈ T.bl, mg x = none := fun x hm => He.free_ok X G (He.SaysD.facts (says_d c) (f := .free x) (List.mem_append_right _ (List.mem_append_right _ (List.mem_append_left _ (List.mem_map.mpr ⟨x, hm, rfl⟩)))))
  refine ⟨fun k l hl => ?_, fun k x hk => ?_, fun k x hk => ?_, fun c' k b hb => ?_, fun c' k b hb => ?_⟩
  · rw [eP] at hl ⊢
    have hk : k < T.no := (List.getElem?_eq_some_iff.mp hl).1
    have hkl : k < T.prg.cls.length := Nat.lt_of_lt_of_le hk h1
    refine ⟨T.prg.cls[k], by simp [hkl], ?_⟩
    have ex : T.cl k = T.prg.cls[k] := cl_at (by simp [hkl])
    rw [← ex]
    have eb := m1 k hk
    unfold excB at eb
    simp only [Bool.and_eq_true, decide_eq_true_eq] at eb
    obtain ⟨b1, b2, b3, b4, b5, b6, b7, b8, b9, b10, b11, b12, b13, b14, b15⟩ := eb
    obtain ⟨kn, x1, x2, x3⟩ := xnB_ok b15
    have T3 : XnC K (He.ga K (T.cl k)) := ⟨x1, x2, x3, b10, b11, b12, b13, b14⟩
    have hO : OexC K (He.ga K (T.cl k)) := ⟨oexB_ok b1, b2, b3, b4, b5⟩
    have eC : M.cls k = He.ga K (T.cl k) := by rw [ec]
    obtain ⟨fd, FD⟩ := He.SaysD.defs (says_d c) (d := iniD T k) (List.mem_append_right _ (List.mem_map.mpr ⟨k, List.mem_range.mpr hk, rfl⟩))
    have FD : FunD K "__init__" T.qi (defArgs T.ini) (defBody T.ini) (defScope T.ini) [] [] (He.ma K (He.ga K (T.cl k)) "__init__") fd := FD
    refine { mg := by rw [eg, eC]; exact glo k hk, T := by rw [eK, eC]; exact hO, init := ⟨He.ma K (He.ga K (T.cl k)) "__init__", fd, ["self", "what"], by rw [eK, eC]; exact b6, by rw [eK]; exact b7, by rw [eK]; exact bind_of FD hi.ps, by rw [eC, eK]; exact ini_ok hi FD hO (xfB_ok b8) T3 b9 kn⟩, xf := by rw [eK, eC]; exact xfB_ok b8, wh := by rw [eK, eC]; exact b9, c0 := by rw [eK, eC]; exact b10, c1 := by rw [eK, eC]; exact b11, c2 := by rw [eK]; exact b12, c3 := by rw [eK]; exact b13, c4 := by rw [eK, eC]; exact b14 }
  · rw [eP] at hk
    rw [eg, ev]
    have ek := cl_at hk
    have hkl : k < T.prg.cls.length := (List.getElem?_eq_some_iff.mp hk).1
    refine ⟨?_, (nd_of (h3 x (List.mem_of_getElem? hk))).1⟩
    unfold clvOf
    by_cases q : k < T.no
    · rw [if_pos q, ← ek]
      exact .inl (glo k q)
    · rw [if_neg q]
      obtain ⟨t1, t2⟩ := hty k x (by omega) hk
      exact .inr ⟨fre x (by rw [← ek]; exact (h4 k hkl).resolve_left q), t1, t2⟩
  · rw [ev]
    unfold clvOf
    by_cases q : k < T.no
    · rw [if_pos q]
      exact ⟨V.ref _, rfl, fun u r => r⟩
    · rw [if_neg q]
      exact ⟨V.ty _, rfl, fun u r => r⟩
  all_goals
    rw [eP] at hb
    rw [eK, ec, ev]
    obtain ⟨l, hl⟩ := sub_own hb
    have hc' : c' < T.no := (List.getElem?_eq_some_iff.mp hl).1
    have hkl : k < T.prg.cls.length := by
      obtain ⟨l2, e1, e2⟩ := Option.bind_eq_some_iff.mp hb
      exact Nat.lt_of_lt_of_le (List.getElem?_eq_some_iff.mp e2).1 (h5 l2 (List.mem_of_getElem? e1))
    have pb := m2 c' hc' k hkl
    unfold pairB at pb
    rw [hb] at pb
    simp only [Bool.and_eq_true, decide_eq_true_eq] at pb
  · exact pb.1
  · exact pb.2
/-- the module, its defs chosen -/
theorem md_of (hx : txB T = true) (c : SaysTx T w h K) (X : K.In h) (G : h.Ns mainGlobals mg) : ∃ fds : Nat → Fd, ∀ f d, T.prg.defs[f]? = some d → ∃ st, T.sts[f]? = some st ∧ (fds f).body = defBody st ∧ (fds f).scope = defScope st ∧ K.lookup (fds f).a = some ⟨(fds f).oc, (fds f).od, .func (fds f).fd, (fds f).osl⟩ ∧ PySem.W.codeIn K (fds f).cdv (fds f).name = true ∧ PySem.W.keepIn K (.ref (fds f).a) = true ∧ mg (fds f).name = some (.ref (fds f).a) ∧ (fds f).a = He.fAd K (d.name, none) ∧
    FnScope (fds f).N (fds f).ps (fds f).scope ∧ Bd K (fds f).fd (fds f).ps ∧ d.name = (fds f).name ∧ d.N = (fds f).N ∧ d.np = (fds f).ps.length ∧ okSs ⟨T.prg, T.bl, T.gc⟩ ⟨true, lmsOf T f, true, false⟩ (fds f).scope (fds f).N d.body (fds f).body = true := by
  have key : ∀ f, ∃ F : Fd, ∀ d, T.prg.defs[f]? = some d → ∃ st, T.sts[f]? = some st ∧ F.body = defBody st ∧ F.scope = defScope st ∧ K.lookup F.a = some ⟨F.oc, F.od, .func F.fd, F.osl⟩ ∧ PySem.W.codeIn K F.cdv F.name = true ∧ PySem.W.keepIn K (.ref F.a) = true ∧ mg F.name = some (.ref F.a) ∧ F.a = He.fAd K (d.name, none) ∧
      FnScope F.N F.ps F.scope ∧ Bd K F.fd F.ps ∧ d.name = F.name ∧ d.N = F.N ∧ d.np = F.ps.length ∧ okSs ⟨T.prg, T.bl, T.gc⟩ ⟨true, lmsOf T f, true, false⟩ F.scope F.N d.body F.body = true := fun f => by
    cases e : T.prg.defs[f]? with
    | none => exact ⟨⟨0, "", ⟨[], [], none, [], [], none, []⟩, [], ⟨.function, [], false, false, []⟩, .none, .none, .none, .none, .none, .none, .none, none, none, #[], [], []⟩, fun d z => by cases z⟩
    | some d =>
      obtain ⟨F, st, q⟩ := fd_of (mg := mg) hx c X G e
      exact ⟨F, fun d' z => by cases z; exact ⟨st, q⟩⟩
  exact ⟨fun f => Classical.choose (key f), fun f => Classical.choose_spec (key f)⟩
end
/-- the law, walked by the evaluator -/
theorem bh_walk {T : Tx} {l : PySem.W.OpenLaw} {n k wf ix : Nat} {df : Def} {q : Program} {loose : List Str} {XP : (Str → Option Value) → Heap → Prop} {YP : World → Heap → Prop} {d : DefRec} (hn : l.most = some n) (hn2 : n ≤ sizeLine) (hdf : d.params.defaults = []) (hr : Room k callerA) (hx : txB T = true)
    (hty : ∀ k x, T.no ≤ k → T.prg.cls[k]? = some x → bootBuiltins x = some (.type (T.tyn k)) ∧ x ≠ "__name__") (hi : IniOk T.ini) (hix : T.prg.defs[ix]? = some df) (hnm : df.name = d.name) (hnp : df.np = 1)
    (says : ∀ w h, YP w h → ∃ K : PySem.W.Frag, K.In h ∧ SaysTx T w h K)
    (hev : ∀ ns : List Int, ns.length ≤ n → (∀ z ∈ ns, Builtin.Int.intBits z ≤ 1048576) → ∃ S', callF T.prg wf k ix [.frz (ns.map D.int)] noThk [] = .ok (.bl true) S') :
    PySem.W.WalkO q loose XP YP l.row.toRowW d [] (fun f vs => PySem.call f vs) := by
  refine Att.attach_callB hn hdf fun w s₀ s mg mb fa o pm cd doc a vs ns G Y ho hd hcd hmg hobj hints hlen hbits hg => ?_
  obtain ⟨K, KX, c⟩ := says w _ Y
  obtain ⟨fds, hfd⟩ := md_of (mg := mg) hx c KX G.T.g
  have tE : ∀ p ∈ tbOf T K, s.heap.get? p.2 = some { cls := .none, data := .fields #[] } := fun p hp => by
    obtain ⟨x, hx', rfl⟩ := List.mem_map.mp hp
    exact c.empty (x, none) (List.mem_map.mpr ⟨x, hx', rfl⟩)
  have tN : ∀ p ∈ tbOf T K, K.lookup p.2 = none := fun p hp => by
    obtain ⟨x, hx', rfl⟩ := List.mem_map.mp hp
    exact c.out (x, none) (List.mem_map.mpr ⟨x, hx', rfl⟩)
  have tC : ∀ p ∈ tbOf T K, PySem.W.CodeHd s.heap p.1 p.2 := fun p hp => by
    obtain ⟨x, hx', rfl⟩ := List.mem_map.mp hp
    exact PySem.W.codeHd_of_K KX (c.hd (x, none) (List.mem_map.mpr ⟨x, hx', rfl⟩))
  refine bh_call KX G.T.g G.T.b G.T.builtins G.T.nolimit hg tE tN tC G.T.bmain hobj hints (Nat.le_trans hlen hn2) fun base H kB nB tB e0 hH hS => ?_
  let M : Md := ⟨l.prog, w, K, mg, base, TOf T K, fun k => He.ga K (T.cl k), fun k => clvOf T K k, T.prg, wf, fds⟩
  have nodT : (T.tf.map fun x => (He.cT K (x, none)).2).Nodup := by
    have more := (Bool.and_eq_true_iff.mp (show (exOf0 T K && gcB T K) = true from c.more)).1
    unfold exOf0 at more
    simp only [Bool.and_eq_true, decide_eq_true_eq] at more
    exact more.2.2
  have mo : MdOk M (lmsOf T) := by
    refine ⟨fun f d hd => ?_, fun f hl q hq => ?_⟩
    · obtain ⟨st, _, _, _, q1, q2, q3, q4, _, q5, q6, q7, q8, q9, _⟩ := hfd f d hd
      exact ⟨q1, q2, q3, q4, q5, q5.nd, q6, q7, q8, q9⟩
    · unfold lmsOf at hl
      split at hl
      · rename_i d hd
        have hm : d.name ∈ T.tf := of_decide_eq_true hl
        obtain ⟨st, _, _, _, q1, q2, q3, q4, qa, q5, q6, q7, q8, q9, _⟩ := hfd f d hd
        obtain ⟨cc, ec⟩ := He.codeIn_ref q2
        have hcode : He.codeOf K (d.name, none) = cc := He.codeOf_eq (p := (d.name, none)) (by rw [← qa]; exact q1) ec
        have ecT : He.cT K (d.name, none) = (cc, (He.cT K (d.name, none)).2) := Prod.ext hcode rfl
        have hmem : He.cT K (d.name, none) ∈ tbOf T K := List.mem_map.mpr ⟨d.name, hm, rfl⟩
        have tb := tB _ hmem
        rw [ecT] at tb
        refine ⟨cc, (He.cT K (d.name, none)).2, ec, tb, List.mem_map.mpr ⟨d.name, hm, ?_⟩, fun p hp e => ?_⟩
        · rw [hq, q7]
        · obtain ⟨x, hx', rfl⟩ := List.mem_map.mp hp
          have : x = d.name := nodup_inj nodT hx' hm e
          rw [hq, this, q7]
      · cases hl
  have co : CkOk M ⟨T.prg, T.bl, T.gc⟩ := by
    refine ⟨rfl, fun x hm => He.free_ok KX G.T.g (He.SaysD.facts (says_d c) (f := .free x) (List.mem_append_right _ (List.mem_append_right _ (List.mem_append_left _ (List.mem_map.mpr ⟨x, hm, rfl⟩))))), fun g x i hg => ?_, fun z => ?_⟩
    · exact He.int_ok KX G.T.g (He.SaysD.facts (says_d c) (f := .int x i) (List.mem_append_right _ (List.mem_append_right _ (List.mem_append_right _ (List.mem_map.mpr ⟨(x, i), List.mem_of_getElem? hg, rfl⟩)))))
    · have z : T.gc = true := z
      have more := (Bool.and_eq_true_iff.mp (show (exOf0 T K && gcB T K) = true from c.more)).2
      unfold gcB at more
      rw [z] at more
      exact PySem.W.mg_of KX G.T.g (He.eqO_ok more)
  have xs : XsOk M := xs_of hx hty hi c KX G.T.g rfl rfl rfl (fun _ => rfl) fun _ => rfl
  have fn : Fn M k ix := fns mo co xs (fun f d hd => by
    obtain ⟨st, _, _, _, _, _, _, _, _, _, _, _, _, _, okk⟩ := hfd f d hd
    exact okk) k hix
  have ok := mo.ok ix df hix
  obtain ⟨p0, ep⟩ : ∃ p0, (fds ix).ps = [p0] := by
    have z := ok.np
    rw [hnp] at z
    exact List.length_eq_one_iff.mp z.symm
  have eF : fa = (fds ix).a := by
    have z := ok.mg
    have z2 : mg d.name = some (.ref (fds ix).a) := by rw [← hnm, ok.nm]; exact z
    rw [hmg] at z2
    exact Value.ref.inj (Option.some.inj z2)
  subst eF
  have bd := ok.bd.pos s [.ref a] KX (by rw [List.append_nil, ep]; rfl)
  rw [List.append_nil] at bd
  refine fn callerA [] s H ⟨[.ref a], []⟩ [.ref a] [.ref a] _ _ hr rfl e0 bd (.cons rfl .nil) ?_
  obtain ⟨S', ev⟩ := hev ns hlen hbits
  refine ⟨⟨K, TOf T K, fun k => He.ga K (T.cl k), [], fun _ _ _ => False, fun _ => False, [], H⟩, [], [], [.frz (ns.map D.int)], ⟨rfl, rfl, rfl⟩, ⟨rfl, List.nodup_nil, fun a h => (nomatch h), fun a h => (nomatch h), fun n a o h _ => by simp at h, fun p hp => ?_⟩, ?_, ?_⟩
  · obtain ⟨x, hx', rfl⟩ := List.mem_map.mp hp
    exact LamX.TabS.nil (hH (He.cT K (x, none)) (List.mem_map.mpr ⟨x, hx', rfl⟩))
  · have zsL : ∀ (hid m : List Addr) (zs : List Int), BrL K hid m H (zs.map D.int) (zs.map V.int) := fun hid m zs => by
      induction zs with
      | nil => simp [BrL]
      | cons z zs ih =>
        simp only [List.map_cons, BrL]
        exact ⟨_, _, rfl, by simp [Br], ih⟩
    show BrL K [] [] H [.frz (ns.map D.int)] [.ref a]
    simp only [BrL, Br]
    refine ⟨_, _, rfl, ⟨a, ns.map V.int, rfl, ?_, zsL [] [] ns⟩, rfl⟩
    rcases hS with hS | hS
    · exact .inl ⟨hS, by simp, by simp⟩
    · exact .inr hS
  · rw [ev]
    exact fun m' H' g st v hv => brBl hv
end Bh

set_option Elab.async false
set_option linter.all false
set_option maxRecDepth 100000
set_option maxHeartbeats 0
namespace BhK00
open PySem PySem.Spec PyProof.Rows L2 Bh
def d0 : Def := ⟨"a_number", ["thing"], 1, (.cons (.ret (.and_ (.cons (.callB (.isI .int) (.cons (.var 0) .nil)) (.cons (.not (.callB (.isI .bool) (.cons (.var 0) .nil))) .nil)))) (.nil))⟩
def d1 : Def := ⟨"number_from", ["thing", "least", "most"], 3, (.cons (.ret (.and_ (.cons (.call 0 (.cons (.var 0) .nil)) (.cons (.chain .le .le (.var 1) (.var 0) (.var 2)) .nil)))) (.nil))⟩
def d2 : Def := ⟨"tuple_of", ["thing", "many"], 2, (.cons (.ret (.and_ (.cons (.callB (.isI .tuple) (.cons (.var 0) .nil)) (.cons (.cmp .eq (.callB .len (.cons (.var 0) .nil)) (.var 1)) .nil)))) (.nil))⟩
def d3 : Def := ⟨"rising_parts", ["parts", "thing", "least", "part"], 2, (.cons (.if_ (.not (.callB (.isI .tuple) (.cons (.var 1) .nil))) (.cons (.ret (.bl false)) (.nil)) (.nil)) (.cons (.asg (.nm 2) (.int 0)) (.cons (.for_ (.nm 3) (.seq (.var 1)) (.cons (.if_ (.not (.call 1 (.cons (.var 3) (.cons (.var 2) (.cons (.bin .sub (.var 0) (.int 1)) .nil))))) (.cons (.ret (.bl false)) (.nil)) (.nil)) (.cons (.asg (.nm 2) (.bin .add (.var 3) (.int 1))) (.nil)))) (.cons (.ret (.bl true)) (.nil)))))⟩
def d4 : Def := ⟨"first_fault", ["flags", "index", "right"], 1, (.cons (.for_ (.tp [1, 2]) (.enum (.var 0)) (.cons (.if_ (.not (.var 2)) (.cons (.ret (.var 1)) (.nil)) (.nil)) (.nil))) (.cons (.ret .non) (.nil)))⟩
def d5 : Def := ⟨"made_book", ["thing", "fault"], 1, (.cons (.asg (.nm 1) (.call 8 (.cons (.var 0) .nil))) (.cons (.if_ (.cmp .isnot (.var 1) .non) (.cons (.raise 1 (.var 1)) (.nil)) (.nil)) (.cons (.ret (.var 0)) (.nil))))⟩
def d6 : Def := ⟨"is_book", ["thing"], 1, (.cons (.ret (.cmp .is_ (.call 8 (.cons (.var 0) .nil)) .non)) (.nil))⟩
def d7 : Def := ⟨"plain", ["steps", "part"], 1, (.cons (.if_ (.not (.callB (.isI .tuple) (.cons (.var 0) .nil))) (.cons (.raise 1 (.neg (.int 1))) (.nil)) (.nil)) (.cons (.ret (.call 5 (.cons (.tup (.cons (.var 0) (.cons (.callB .tuple (.cons (.comp false (.tup (.cons (.var 1) .nil)) (.nm 1) (.range1 (.callB .len (.cons (.var 0) .nil))) .nil) .nil)) .nil))) .nil))) (.nil)))⟩
def d8 : Def := ⟨"_book_fault", ["thing", "fault", "steps", "links", "many", "part", "row"], 1, (.cons (.if_ (.not (.call 9 (.cons (.var 0) .nil))) (.cons (.ret (.neg (.int 1))) (.nil)) (.nil)) (.cons (.asg (.tp [2, 3]) (.var 0)) (.cons (.asg (.nm 1) (.call 4 (.cons (.comp false (.call 1 (.cons (.var 4) (.cons (.int 1) (.cons (.glob 1) .nil)))) (.nm 4) (.seq (.var 2)) .nil) .nil))) (.cons (.if_ (.cmp .isnot (.var 1) .non) (.cons (.ret (.tup (.cons (.int 0) (.cons (.var 1) .nil)))) (.nil)) (.nil)) (.cons (.asg (.nm 1) (.call 4 (.cons (.comp false (.call 10 (.cons (.callB .len (.cons (.var 2) .nil)) (.cons (.var 5) (.cons (.var 6) .nil)))) (.tp [5, 6]) (.enum (.var 3)) .nil) .nil))) (.cons (.if_ (.cmp .isnot (.var 1) .non) (.cons (.ret (.tup (.cons (.int 1) (.cons (.var 1) .nil)))) (.nil)) (.nil)) (.cons (.ret .non) (.nil))))))))⟩
def d9 : Def := ⟨"_book_shaped", ["thing", "many"], 1, (.cons (.if_ (.or_ (.cons (.not (.call 2 (.cons (.var 0) (.cons (.int 2) .nil)))) (.cons (.not (.callB (.isI .tuple) (.cons (.ix (.var 0) (.int 0)) .nil))) .nil))) (.cons (.ret (.bl false)) (.nil)) (.nil)) (.cons (.asg (.nm 1) (.callB .len (.cons (.ix (.var 0) (.int 0)) .nil))) (.cons (.ret (.and_ (.cons (.chain .le .le (.int 1) (.var 1) (.glob 0)) (.cons (.call 2 (.cons (.ix (.var 0) (.int 1)) (.cons (.var 1) .nil))) .nil)))) (.nil))))⟩
def d10 : Def := ⟨"_links_formed", ["parts", "part", "row"], 3, (.cons (.ret (.and_ (.cons (.call 3 (.cons (.var 0) (.cons (.var 2) .nil))) (.cons (.cmp .isin (.var 1) (.var 2)) .nil)))) (.nil))⟩
def d11 : Def := ⟨"_law_pool", ["script", "k", "cell", "big", "mixed"], 2, (.cons (.asg (.nm 2) (.int 0)) (.cons (.if_ (.cmp .lt (.var 1) (.callB .len (.cons (.var 0) .nil))) (.cons (.asg (.nm 2) (.ix (.var 0) (.var 1))) (.nil)) (.cons (.if_ (.cmp .ne (.var 0) (.lst .nil)) (.cons (.asg (.nm 2) (.ix (.var 0) (.int 0))) (.nil)) (.nil)) (.nil))) (.cons (.asg (.nm 3) (.callB .max2 (.cons (.callB .int (.cons (.var 2) .nil)) (.cons (.callB .int (.cons (.bin .sub (.neg (.int 1)) (.var 2)) .nil)) .nil)))) (.cons (.asg (.nm 4) (.bin .mod (.callB .int (.cons (.bin .mul (.bin .add (.bin .add (.bin .add (.bin .mod (.callB .int (.cons (.var 3) .nil)) (.int 2147483629)) (.bin .mul (.bin .mul (.int 7919) (.var 1)) (.var 1))) (.bin .mul (.int 31) (.var 1))) (.int 17)) (.int 48271)) .nil)) (.int 2147483647))) (.cons (.ret (.cell (.cons (.bin .mul (.var 3) (.callB .int (.cons (.and_ (.cons (.cmp .ge (.var 3) (.bin .pow (.int 10) (.int 18))) (.cons (.cmp .lt (.var 1) (.callB .len (.cons (.var 0) .nil))) .nil))) .nil))) (.cons (.var 4) .nil)))) (.nil))))))⟩
def d12 : Def := ⟨"_law_take", ["source", "top", "drawn"], 2, (.cons (.if_ (.cmp .gt (.ix (.var 0) (.int 0)) (.int 0)) (.cons (.asg (.nm 2) (.bin .mod (.callB .int (.cons (.ix (.var 0) (.int 0)) .nil)) (.var 1))) (.cons (.setIx (.var 0) (.int 0) (.bin .fdiv (.ix (.var 0) (.int 0)) (.var 1))) (.cons (.ret (.var 2)) (.nil)))) (.nil)) (.cons (.setIx (.var 0) (.int 1) (.bin .mod (.callB .int (.cons (.bin .add (.bin .mul (.ix (.var 0) (.int 1)) (.int 39373)) (.int 7)) .nil)) (.int 2147483647))) (.cons (.ret (.bin .mod (.callB .int (.cons (.bin .fdiv (.bin .mod (.callB .int (.cons (.bin .mul (.ix (.var 0) (.int 1)) (.ix (.var 0) (.int 1))) .nil)) (.int 2147483629)) (.int 32)) .nil)) (.var 1))) (.nil))))⟩
def d13 : Def := ⟨"_law_one", ["source", "things"], 2, (.cons (.ret (.ix (.var 1) (.call 12 (.cons (.var 0) (.cons (.callB .len (.cons (.var 1) .nil)) .nil))))) (.nil))⟩
def d14 : Def := ⟨"_law_plain_links", ["many", "i"], 1, (.cons (.ret (.callB .tuple (.cons (.comp false (.tup (.cons (.var 1) .nil)) (.nm 1) (.range1 (.var 0)) .nil) .nil))) (.nil))⟩
def d15 : Def := ⟨"_law_drawn_links", ["source", "many", "is_common", "i", "found", "common", "more", "j"], 2, (.cons (.par [4, 5] (.cons (.cell .nil) (.cons (.call 12 (.cons (.var 0) (.cons (.var 1) .nil))) (.nil)))) (.cons (.asg (.nm 2) (.cmp .eq (.call 12 (.cons (.var 0) (.cons (.int 4) .nil))) (.int 0))) (.cons (.for_ (.nm 3) (.range1 (.var 1)) (.cons (.asg (.nm 6) (.ife (.var 2) (.lst (.cons (.var 5) .nil)) (.comp false (.var 7) (.nm 7) (.range1 (.var 1)) (.cons (.cmp .eq (.call 12 (.cons (.var 0) (.cons (.int 3) .nil))) (.int 0)) .nil)))) (.cons (.expr (.append (.var 4) (.callB .tuple (.cons (.comp false (.var 7) (.nm 7) (.range1 (.var 1)) (.cons (.or_ (.cons (.cmp .eq (.var 7) (.var 3)) (.cons (.cmp .isin (.var 7) (.var 6)) .nil))) .nil)) .nil)))) (.nil)))) (.cons (.ret (.callB .tuple (.cons (.var 4) .nil))) (.nil)))))⟩
def d16 : Def := ⟨"_law_is_whole", ["thing", "low", "high"], 3, (.cons (.ret (.and_ (.cons (.callB (.isI .int) (.cons (.var 0) .nil)) (.cons (.not (.callB (.isI .bool) (.cons (.var 0) .nil))) (.cons (.chain .le .le (.var 1) (.var 0) (.var 2)) .nil))))) (.nil))⟩
def d17 : Def := ⟨"_law_are_links", ["thing", "part", "many", "j", "at"], 3, (.cons (.if_ (.or_ (.cons (.not (.callB (.isI .tuple) (.cons (.var 0) .nil))) (.cons (.cmp .ne (.comp false (.var 3) (.nm 3) (.seq (.var 0)) (.cons (.not (.call 16 (.cons (.var 3) (.cons (.int 0) (.cons (.bin .sub (.var 2) (.int 1)) .nil))))) .nil)) (.lst .nil)) .nil))) (.cons (.ret (.bl false)) (.nil)) (.nil)) (.cons (.ret (.and_ (.cons (.cmp .isin (.var 1) (.var 0)) (.cons (.cmp .eq (.comp false (.var 4) (.nm 4) (.range2 (.int 1) (.callB .len (.cons (.var 0) .nil))) (.cons (.cmp .ge (.ix (.var 0) (.bin .sub (.var 4) (.int 1))) (.ix (.var 0) (.var 4))) .nil)) (.lst .nil)) .nil)))) (.nil)))⟩
def d18 : Def := ⟨"_law_wrong_entry", ["thing", "i", "steps", "links"], 1, (.cons (.if_ (.or_ (.cons (.not (.callB (.isI .tuple) (.cons (.var 0) .nil))) (.cons (.cmp .ne (.callB .len (.cons (.var 0) .nil)) (.int 2)) .nil))) (.cons (.ret (.neg (.int 1))) (.nil)) (.nil)) (.cons (.asg (.tp [2, 3]) (.var 0)) (.cons (.if_ (.or_ (.cons (.not (.callB (.isI .tuple) (.cons (.var 2) .nil))) (.cons (.not (.callB (.isI .tuple) (.cons (.var 3) .nil))) .nil))) (.cons (.ret (.neg (.int 1))) (.nil)) (.nil)) (.cons (.if_ (.or_ (.cons (.cmp .ne (.callB .len (.cons (.var 2) .nil)) (.callB .len (.cons (.var 3) .nil))) (.cons (.not (.chain .le .le (.int 1) (.callB .len (.cons (.var 2) .nil)) (.int 6))) .nil))) (.cons (.ret (.neg (.int 1))) (.nil)) (.nil)) (.cons (.for_ (.nm 1) (.range1 (.callB .len (.cons (.var 2) .nil))) (.cons (.if_ (.not (.call 16 (.cons (.ix (.var 2) (.var 1)) (.cons (.int 1) (.cons (.int 60) .nil))))) (.cons (.ret (.tup (.cons (.int 0) (.cons (.var 1) .nil)))) (.nil)) (.nil)) (.nil))) (.cons (.for_ (.nm 1) (.range1 (.callB .len (.cons (.var 3) .nil))) (.cons (.if_ (.not (.call 17 (.cons (.ix (.var 3) (.var 1)) (.cons (.var 1) (.cons (.callB .len (.cons (.var 3) .nil)) .nil))))) (.cons (.ret (.tup (.cons (.int 1) (.cons (.var 1) .nil)))) (.nil)) (.nil)) (.nil))) (.cons (.ret .non) (.nil))))))))⟩
def d19 : Def := ⟨"_law_any_book", ["source", "many", "steps", "i"], 1, (.cons (.asg (.nm 1) (.bin .add (.int 1) (.call 12 (.cons (.var 0) (.cons (.int 6) .nil))))) (.cons (.asg (.nm 2) (.callB .tuple (.cons (.comp false (.call 13 (.cons (.var 0) (.cons (.lst (.cons (.int 1) (.cons (.int 60) (.cons (.bin .add (.int 1) (.call 12 (.cons (.var 0) (.cons (.int 60) .nil)))) (.cons (.bin .add (.int 1) (.call 12 (.cons (.var 0) (.cons (.int 9) .nil)))) .nil))))) .nil))) (.nm 3) (.range1 (.var 1)) .nil) .nil))) (.cons (.ret (.tup (.cons (.var 2) (.cons (.ife (.cmp .eq (.call 12 (.cons (.var 0) (.cons (.int 3) .nil))) (.int 0)) (.call 14 (.cons (.var 1) .nil)) (.call 15 (.cons (.var 0) (.cons (.var 1) .nil)))) .nil)))) (.nil))))⟩
def d20 : Def := ⟨"_law_put_at", ["row", "at", "thing"], 3, (.cons (.ret (.bin .add (.bin .add (.slHi (.var 0) (.var 1)) (.tup (.cons (.var 2) .nil))) (.slLo (.var 0) (.bin .add (.var 1) (.int 1))))) (.nil))⟩
def d21 : Def := ⟨"_law_spoilt_steps", ["source", "steps", "odd"], 2, (.cons (.asg (.nm 2) (.call 13 (.cons (.var 0) (.cons (.lst (.cons (.int 0) (.cons (.int 61) (.cons (.neg (.int 1)) (.cons .non (.cons (.str "4") (.cons (.bin .pow (.int 10) (.int 20)) (.cons (.bl true) (.cons (.tup (.cons (.int 4) .nil)) .nil))))))))) .nil)))) (.cons (.ret (.call 13 (.cons (.var 0) (.cons (.bin .add (.bin .mul (.lst (.cons (.call 20 (.cons (.var 1) (.cons (.call 12 (.cons (.var 0) (.cons (.callB .len (.cons (.var 1) .nil)) .nil))) (.cons (.var 2) .nil)))) .nil)) (.int 3)) (.lst (.cons (.bin .add (.var 1) (.tup (.cons (.int 4) .nil))) (.cons (.slLo (.var 1) (.int 1)) (.cons .non (.cons (.tup .nil) .nil)))))) .nil)))) (.nil)))⟩
def d22 : Def := ⟨"_law_spoilt_links", ["source", "links", "own", "odd", "at", "many", "j"], 2, (.cons (.par [4, 5] (.cons (.call 12 (.cons (.var 0) (.cons (.callB .len (.cons (.var 1) .nil)) .nil))) (.cons (.callB .len (.cons (.var 1) .nil)) (.nil)))) (.cons (.asg (.nm 2) (.ix (.var 1) (.var 4))) (.cons (.asg (.nm 3) (.call 13 (.cons (.var 0) (.cons (.lst (.cons (.tup .nil) (.cons (.bin .add (.var 2) (.tup (.cons (.var 5) .nil))) (.cons (.bin .add (.var 2) (.slHi (.var 2) (.int 1))) (.cons (.bin .add (.rev (.var 2)) (.tup (.cons (.var 4) .nil))) (.cons .non (.cons (.var 4) (.cons (.bin .add (.tup (.cons (.neg (.int 1)) .nil)) (.var 2)) (.cons (.tup (.cons (.callB .str (.cons (.var 4) .nil)) .nil)) (.cons (.tup (.cons (.bl true) .nil)) .nil)))))))))) .nil)))) (.cons (.asg (.nm 3) (.call 13 (.cons (.var 0) (.cons (.lst (.cons (.var 3) (.cons (.var 3) (.cons (.callB .tuple (.cons (.comp false (.var 6) (.nm 6) (.seq (.var 2)) (.cons (.cmp .ne (.var 6) (.var 4)) .nil)) .nil)) .nil)))) .nil)))) (.cons (.ret (.call 13 (.cons (.var 0) (.cons (.bin .add (.bin .mul (.lst (.cons (.call 20 (.cons (.var 1) (.cons (.var 4) (.cons (.var 3) .nil)))) .nil)) (.int 3)) (.lst (.cons (.bin .add (.var 1) (.tup (.cons (.tup (.cons (.var 5) .nil)) .nil))) (.cons (.slLo (.var 1) (.int 1)) (.cons (.str "links") .nil))))) .nil)))) (.nil))))))⟩
def d23 : Def := ⟨"_law_heard", ["call", "fault"], 1, (.cons (.try_ (.cons (.ret (.tup (.cons (.str "told") (.cons (.act 0) .nil)))) (.nil)) (.cons 0 (some 1) (.cons (.ret (.tup (.cons (.str "refused") (.cons (.what 1) (.cons (.and_ (.cons (.isX 1 1) (.cons (.isX 1 2) .nil))) .nil))))) (.nil)) (.nil))) (.nil))⟩
def d24 : Def := ⟨"_law_thing_right", ["thing", "wrong", "due"], 1, (.cons (.asg (.nm 1) (.call 18 (.cons (.var 0) .nil))) (.cons (.asg (.nm 2) (.ife (.cmp .is_ (.var 1) .non) (.tup (.cons (.str "told") (.cons (.var 0) .nil))) (.tup (.cons (.str "refused") (.cons (.var 1) (.cons (.bl true) .nil)))))) (.cons (.ret (.and_ (.cons (.cmp .eq (.callB .repr (.cons (.lamcall 23 (.call 5 (.cons (.var 0) .nil))) .nil)) (.callB .repr (.cons (.var 2) .nil))) (.cons (.cmp .eq (.callB .repr (.cons (.call 6 (.cons (.var 0) .nil)) .nil)) (.callB .repr (.cons (.cmp .is_ (.var 1) .non) .nil))) .nil)))) (.nil))))⟩
def d25 : Def := ⟨"_law_plain_right", ["steps", "book", "wrong"], 1, (.cons (.if_ (.not (.callB (.isI .tuple) (.cons (.var 0) .nil))) (.cons (.ret (.cmp .eq (.callB .repr (.cons (.lamcall 23 (.call 7 (.cons (.var 0) .nil))) .nil)) (.callB .repr (.cons (.tup (.cons (.str "refused") (.cons (.neg (.int 1)) (.cons (.bl true) .nil)))) .nil)))) (.nil)) (.nil)) (.cons (.asg (.nm 1) (.tup (.cons (.var 0) (.cons (.call 14 (.cons (.callB .len (.cons (.var 0) .nil)) .nil)) .nil)))) (.cons (.asg (.nm 2) (.call 18 (.cons (.var 1) .nil))) (.cons (.ret (.cmp .eq (.callB .repr (.cons (.lamcall 23 (.call 7 (.cons (.var 0) .nil))) .nil)) (.callB .repr (.cons (.ife (.cmp .is_ (.var 2) .non) (.tup (.cons (.str "told") (.cons (.var 1) .nil))) (.tup (.cons (.str "refused") (.cons (.var 2) (.cons (.bl true) .nil))))) .nil)))) (.nil)))))⟩
def d26 : Def := ⟨"law", ["script", "source", "book", "turn", "odd", "thing", "steps", "links"], 1, (.cons (.asg (.nm 1) (.call 11 (.cons (.var 0) (.cons (.int 0) .nil)))) (.cons (.asg (.nm 2) (.call 19 (.cons (.var 1) .nil))) (.cons (.if_ (.or_ (.cons (.cmp .isnot (.call 18 (.cons (.var 2) .nil)) .non) (.cons (.not (.call 24 (.cons (.var 2) .nil))) (.cons (.not (.call 25 (.cons (.ix (.var 2) (.int 0)) .nil))) .nil)))) (.cons (.ret (.bl false)) (.nil)) (.nil)) (.cons (.for_ (.nm 3) (.range1 (.int 6)) (.cons (.par [6, 7] (.cons (.call 21 (.cons (.var 1) (.cons (.ix (.var 2) (.int 0)) .nil))) (.cons (.call 22 (.cons (.var 1) (.cons (.ix (.var 2) (.int 1)) .nil))) (.nil)))) (.cons (.for_ (.nm 5) (.seq (.lst (.cons (.tup (.cons (.var 6) (.cons (.ix (.var 2) (.int 1)) .nil))) (.cons (.tup (.cons (.ix (.var 2) (.int 0)) (.cons (.var 7) .nil))) (.cons (.tup (.cons (.var 6) (.cons (.var 7) .nil))) .nil))))) (.cons (.if_ (.not (.call 24 (.cons (.var 5) .nil))) (.cons (.ret (.bl false)) (.nil)) (.nil)) (.nil))) (.cons (.if_ (.not (.call 25 (.cons (.var 6) .nil))) (.cons (.ret (.bl false)) (.nil)) (.nil)) (.nil))))) (.cons (.for_ (.nm 4) (.seq (.lst (.cons .non (.cons (.tup .nil) (.cons (.slHi (.var 2) (.int 1)) (.cons (.bin .add (.var 2) (.tup (.cons (.tup .nil) .nil))) (.cons (.int 5) (.cons (.str "book") (.cons (.tup (.cons (.tup .nil) (.cons (.tup .nil) .nil))) (.cons (.tup (.cons .non (.cons .non .nil))) (.cons (.tup (.cons (.bin .mul (.tup (.cons (.int 4) .nil)) (.int 7)) (.cons (.call 14 (.cons (.int 7) .nil)) .nil))) .nil))))))))))) (.cons (.if_ (.not (.call 24 (.cons (.var 4) .nil))) (.cons (.ret (.bl false)) (.nil)) (.nil)) (.nil))) (.cons (.ret (.bl true)) (.nil)))))))⟩
def prg : Prg := ⟨[d0, d1, d2, d3, d4, d5, d6, d7, d8, d9, d10, d11, d12, d13, d14, d15, d16, d17, d18, d19, d20, d21, d22, d23, d24, d25, d26], ["Refused", "BadBook", "ValueError"], [[true, false, true], [true, true, true]], [("MOST_PARTS", 6), ("MOST_STEPS", 60)]⟩
abbrev GP : List Int := prg.globs.map (·.2)
abbrev pw : PySem.Program := PySem.Challenge.pw_byhalves_k00_books_made_and_refused
def top (i : Nat) : Stmt := pw.main.body.getD i (.Pass ⟨0, 0, 0, 0⟩)
def ini : Stmt := match top 1 with
  | .ClassDef (body := b) .. => b.getD 0 (.Pass ⟨0, 0, 0, 0⟩)
  | s => s
def tx : Tx := ⟨prg, [4, 5, 6, 7, 8, 12, 13, 14, 15, 16, 17, 19, 20, 21, 22, 23, 24, 25, 26, 27, 28, 29, 30, 31, 32, 33, 34].map top, ini, "Refused.__init__", fun _ => "ValueError", ["ValueError", "bool", "enumerate", "int", "isinstance", "len", "max", "range", "repr", "str", "tuple"], false, ["_law_thing_right", "_law_plain_right"]⟩
theorem tx_ok : txB tx = true := by kernel_rfl
theorem ini_is : IniOk ini := ⟨⟨_, _, _, _, _, _, _, _, _, _, rfl⟩, ⟨rfl, rfl, rfl, by decide +kernel, rfl, by decide +kernel, by decide +kernel⟩, by decide +kernel, rfl, rfl⟩
abbrev RR : PySem.W.OpenRow := PySem.W.OpenLaw.row PySem.Challenge.rw_byhalves_k00_books_made_and_refused
abbrev hk : PySem.W.Hook := hookS 5 (faOf tx) (fnOf' tx) (tx.tf.map fun x => (x, none)) (exOf tx)
def ob (s : PySem.W.SharedT) : He.AlX := obS 5 (faOf tx) (fnOf' tx) (tx.tf.map fun x => (x, none)) (exOf tx) (HandSHeadRun.getT s)
theorem ob_eq (s : PySem.W.SharedT) : ob s = hk.obs s.abs := obS_eq (HandSHeadRun.getT_eq s)
def loose : List Str := [("__name__" : Str), ("Refused" : Str), ("BadBook" : Str), ("a_number" : Str), ("number_from" : Str), ("tuple_of" : Str), ("rising_parts" : Str), ("first_fault" : Str), ("MOST_PARTS" : Str), ("MOST_STEPS" : Str), ("made_book" : Str), ("is_book" : Str), ("plain" : Str), ("_book_fault" : Str), ("_book_shaped" : Str), ("_links_formed" : Str), ("_law_pool" : Str), ("_law_take" : Str), ("_law_one" : Str), ("_law_plain_links" : Str), ("_law_drawn_links" : Str), ("_law_is_whole" : Str), ("_law_are_links" : Str), ("_law_wrong_entry" : Str), ("_law_any_book" : Str), ("_law_put_at" : Str), ("_law_spoilt_steps" : Str), ("_law_spoilt_links" : Str), ("_law_heard" : Str), ("_law_thing_right" : Str), ("_law_plain_right" : Str)]
theorem run (w : World) : HandSHeadRun.RunEq RR (PySem.W.view RR.prog [34]) hk ob 8000 loose w := by
  intro os
  kernel_rfl
end BhK00

set_option Elab.async false
set_option linter.all false
namespace Bh
section
variable {G : List Int} {sub : Nat → Nat → Option Bool} {C : Nat → Fns} {n : Nat} {th : Thk} {ρ : Env} {S : Sto}
theorem q_var (i : Nat) : ev G sub C (.var i) n th ρ S = (match ρ[i]? with
      | some (some (.exc _ _)) => .bad
      | some (some .lam) => .bad
      | some (some d) => .ok d S
      | _ => .bad) := (rfl)
theorem q_int (i : Int) : ev G sub C (.int i) n th ρ S = (.ok (.int i) S) := (rfl)
theorem q_bl (b : Bool) : ev G sub C (.bl b) n th ρ S = (.ok (.bl b) S) := (rfl)
theorem q_non  : ev G sub C (.non) n th ρ S = (.ok .non S) := (rfl)
theorem q_str (s : PySem.Str) : ev G sub C (.str s) n th ρ S = (.ok (.str s) S) := (rfl)
theorem q_glob (g : Nat) : ev G sub C (.glob g) n th ρ S = (match G[g]? with
      | some i => .ok (.int i) S
      | none => .bad) := (rfl)
theorem q_bin (op : BOp) (a : Ex) (b : Ex) : ev G sub C (.bin op a b) n th ρ S = ((ev G sub C a n th ρ S).bind fun x S1 => (ev G sub C b n th ρ S1).bind fun y S2 => opt (binop op x y) S2) := (rfl)
theorem q_neg (a : Ex) : ev G sub C (.neg a) n th ρ S = ((ev G sub C a n th ρ S).bind fun x S1 => match x with
      | .int i => .ok (.int (-i)) S1
      | _ => .bad) := (rfl)
theorem q_cmp (op : COp) (a : Ex) (b : Ex) : ev G sub C (.cmp op a b) n th ρ S = ((ev G sub C a n th ρ S).bind fun x S1 => (ev G sub C b n th ρ S1).bind fun y S2 => opt ((cmpop op x y S2).map .bl) S2) := (rfl)
theorem q_chain (o1 : COp) (o2 : COp) (a : Ex) (b : Ex) (c : Ex) : ev G sub C (.chain o1 o2 a b c) n th ρ S = ((ev G sub C a n th ρ S).bind fun x S1 => (ev G sub C b n th ρ S1).bind fun y S2 => match cmpop o1 x y S2 with
      | some true => (ev G sub C c n th ρ S2).bind fun z S3 => opt ((cmpop o2 y z S3).map .bl) S3
      | some false => .ok (.bl false) S2
      | none => .bad) := (rfl)
theorem q_and_ (l : Exs) : ev G sub C (.and_ l) n th ρ S = (evAnd G sub C l n th ρ S) := (rfl)
theorem q_or_ (l : Exs) : ev G sub C (.or_ l) n th ρ S = (evOr G sub C l n th ρ S) := (rfl)
theorem q_not (a : Ex) : ev G sub C (.not a) n th ρ S = ((ev G sub C a n th ρ S).bind fun x S1 => opt ((truthy x S1).map fun b => .bl (!b)) S1) := (rfl)
theorem q_ife (c : Ex) (a : Ex) (b : Ex) : ev G sub C (.ife c a b) n th ρ S = ((ev G sub C c n th ρ S).bind fun x S1 => match truthy x S1 with
      | some true => ev G sub C a n th ρ S1
      | some false => ev G sub C b n th ρ S1
      | none => .bad) := (rfl)
theorem q_call (f : Nat) (l : Exs) : ev G sub C (.call f l) n th ρ S = ((evs G sub C l n th ρ S).bind fun xs S1 => C n f xs noThk S1) := (rfl)
theorem q_callB (b : Bf) (l : Exs) : ev G sub C (.callB b l) n th ρ S = ((evs G sub C l n th ρ S).bind fun xs S1 => callB b xs S1) := (rfl)
theorem q_tup (l : Exs) : ev G sub C (.tup l) n th ρ S = ((evs G sub C l n th ρ S).bind fun xs S1 => .ok (.tup xs) S1) := (rfl)
theorem q_tupS (a : Ex) (l : Exs) : ev G sub C (.tupS a l) n th ρ S = ((ev G sub C a n th ρ S).bind fun x S1 => tupSR x (evs G sub C l n th ρ S1)) := (rfl)
theorem q_lst (l : Exs) : ev G sub C (.lst l) n th ρ S = ((evs G sub C l n th ρ S).bind fun xs S1 => .ok (.lst xs) S1) := (rfl)
theorem q_cell (l : Exs) : ev G sub C (.cell l) n th ρ S = ((evs G sub C l n th ρ S).bind fun xs S1 => .ok (.ref S1.length) (S1 ++ [.lst xs])) := (rfl)
theorem q_ix (a : Ex) (i : Ex) : ev G sub C (.ix a i) n th ρ S = ((ev G sub C a n th ρ S).bind fun x S1 => (ev G sub C i n th ρ S1).bind fun y S2 => opt (index x y S2) S2) := (rfl)
theorem q_slLo (a : Ex) (lo : Ex) : ev G sub C (.slLo a lo) n th ρ S = ((ev G sub C a n th ρ S).bind fun x S1 => (ev G sub C lo n th ρ S1).bind fun y S2 => match y with
      | .int i => opt (slice x (some i) none S2) S2
      | _ => .bad) := (rfl)
theorem q_slHi (a : Ex) (hi : Ex) : ev G sub C (.slHi a hi) n th ρ S = ((ev G sub C a n th ρ S).bind fun x S1 => (ev G sub C hi n th ρ S1).bind fun y S2 => match y with
      | .int i => opt (slice x none (some i) S2) S2
      | _ => .bad) := (rfl)
theorem q_slLH (a : Ex) (lo : Ex) (hi : Ex) : ev G sub C (.slLH a lo hi) n th ρ S = ((ev G sub C a n th ρ S).bind fun x S1 => (ev G sub C lo n th ρ S1).bind fun y S2 => match y with
      | .int i => (ev G sub C hi n th ρ S2).bind fun z S3 => match z with
        | .int j => opt (slice x (some i) (some j) S3) S3
        | _ => .bad
      | _ => .bad) := (rfl)
theorem q_rev (a : Ex) : ev G sub C (.rev a) n th ρ S = ((ev G sub C a n th ρ S).bind fun x S1 => match x with
      | .tup l => .ok (.tup l.reverse) S1
      | .lst l => .ok (.lst l.reverse) S1
      | _ => .bad) := (rfl)
theorem q_lamcall (f : Nat) (e : Ex) : ev G sub C (.lamcall f e) n th ρ S = (match n with
      | k + 2 => C (k + 2) f [.lam] (fun S' => ev G sub C e k noThk ρ S') S
      | _ => .bad) := (rfl)
theorem q_act (i : Nat) : ev G sub C (.act i) n th ρ S = (actR th i ρ S) := (rfl)
theorem q_append (a : Ex) (e : Ex) : ev G sub C (.append a e) n th ρ S = ((ev G sub C a n th ρ S).bind fun x S1 => match x with
      | .ref k => (ev G sub C e n th ρ S1).bind fun y S2 => match S2[k]? with
        | some (.lst l) => if l.length < 16777216 then .ok .non (S2.set k (.lst (l ++ [y]))) else .bad
        | _ => .bad
      | _ => .bad) := (rfl)
theorem q_what (i : Nat) : ev G sub C (.what i) n th ρ S = (whatR i ρ S) := (rfl)
theorem q_isX (i : Nat) (c : Nat) : ev G sub C (.isX i c) n th ρ S = (isxR sub i c ρ S) := (rfl)
theorem q_sexpr (e : Ex) {wf : Nat} : exs G sub C wf (.expr e) n th ρ S = (ev G sub C e n th ρ S).go ρ fun _ S1 => .next ρ S1 := (rfl)
theorem q_asg (t : Tg) (e : Ex) {wf : Nat} : exs G sub C wf (.asg t e) n th ρ S = (ev G sub C e n th ρ S).go ρ fun d S1 => match setTg t d ρ with
    | some ρ' => .next ρ' S1
    | none => .bad := (rfl)
theorem q_par (l : List Nat) (e : Exs) {wf : Nat} : exs G sub C wf (.par l e) n th ρ S = (evs G sub C e n th ρ S).go ρ fun ds S1 => match setAll l ds ρ with
    | some ρ' => .next ρ' S1
    | none => .bad := (rfl)
theorem q_if (c : Ex) (t e : Sms) {wf : Nat} : exs G sub C wf (.if_ c t e) n th ρ S = (ev G sub C c n th ρ S).go ρ fun x S1 => match truthy x S1 with
    | some true => exss G sub C wf t n th ρ S1
    | some false => exss G sub C wf e n th ρ S1
    | none => .bad := (rfl)
theorem q_for (t : Tg) (it : It) (b : Sms) {wf : Nat} : exs G sub C wf (.for_ t it b) n th ρ S = (evIt G sub C it n th ρ S).go ρ fun ds S1 => forL t (exss G sub C wf b n th) ds ρ S1 := (rfl)
theorem q_ret (e : Ex) {wf : Nat} : exs G sub C wf (.ret e) n th ρ S = (ev G sub C e n th ρ S).go ρ fun d S1 => .ret d S1 := (rfl)
theorem q_raise (c : Nat) (e : Ex) {wf : Nat} : exs G sub C wf (.raise c e) n th ρ S = if 2 ≤ n then (ev G sub C e n th ρ S).go ρ fun w S1 => .exn c w ρ S1 else .bad := (rfl)
theorem q_nil {wf : Nat} : exss G sub C wf .nil n th ρ S = .next ρ S := (rfl)
theorem q_cons (a : Sm) (l : Sms) {wf : Nat} : exss G sub C wf (.cons a l) n th ρ S = (exs G sub C wf a n th ρ S).bind fun ρ1 S1 => exss G sub C wf l n th ρ1 S1 := (rfl)
/-- a comprehension that leaves the store as it is -/
theorem comp_pure {tg : Tg} {cond : Env → Sto → R Bool} {elt : Env → Sto → R D} {p : D → Bool} {f : D → D} : ∀ (ds : List D), (∀ d ∈ ds, ∃ ρ', setTg tg d ρ = some ρ' ∧ cond ρ' S = .ok (p d) S ∧ (p d = true → elt ρ' S = .ok (f d) S)) → compL tg cond elt ρ ds S = .ok ((ds.filter p).map f) S
  | [], _ => rfl
  | d :: ds, h => by
    obtain ⟨ρ', h1, h2, h3⟩ := h d (List.mem_cons_self ..)
    have ih := comp_pure ds fun d hd => h d (List.mem_cons_of_mem _ hd)
    unfold compL
    rw [h1]
    simp only [h2, R.bind_ok]
    cases q : p d with
    | true => simp only [h3 q, R.bind_ok, ih, List.filter_cons, q, if_true, List.map_cons]
    | false =>
      simp only [ih, List.filter_cons, q]
      simp
theorem q_comp {tg : Tg} {it : It} {elt : Ex} {conds : Exs} {ds : List D} {p : D → Bool} {f : D → D} (h1 : evIt G sub C it n th ρ S = .ok ds S) (h2 : ds.length ≤ 16777216)
    (h3 : ∀ d ∈ ds, ∃ ρ', setTg tg d ρ = some ρ' ∧ evAll G sub C conds n th ρ' S = .ok (p d) S ∧ (p d = true → ev G sub C elt n th ρ' S = .ok (f d) S)) : ev G sub C (.comp false elt tg it conds) n th ρ S = .ok (.lst ((ds.filter p).map f)) S := by
  have e := comp_pure (ρ := ρ) (S := S) (tg := tg) (cond := fun ρ' S' => (evAll G sub C conds n th ρ' S').nox) (elt := fun ρ' S' => (ev G sub C elt n th ρ' S').nox) ds fun d hd => by
    obtain ⟨ρ', k1, k2, k3⟩ := h3 d hd
    exact ⟨ρ', k1, by rw [k2]; rfl, fun q => by rw [k3 q]; rfl⟩
  show (evIt G sub C it n th ρ S).bind _ = _
  rw [h1]
  show (if ds.length ≤ 16777216 then _ else _) = _
  rw [if_pos h2, e]
  rfl
end
end Bh

set_option Elab.async false
set_option linter.all false
set_option maxRecDepth 100000
set_option maxHeartbeats 1000000
/-! Bs: plain data, loops and comprehensions with an invariant, drawn numbers. -/
namespace Bh
open PySem
/-! ### a call's body -/
def fin (r : RS) : R D := match r with
  | .next _ S' => .ok .non S'
  | .ret x S' => .ok x S'
  | .exn c w _ S' => .exn c w S'
  | .bad => .bad
@[simp] theorem fin_next (ρ : Env) (S : Sto) : fin (.next ρ S) = .ok .non S := (rfl)
@[simp] theorem fin_ret (x : D) (S : Sto) : fin (.ret x S) = .ok x S := (rfl)
@[simp] theorem fin_exn (c : Nat) (w : D) (ρ : Env) (S : Sto) : fin (.exn c w ρ S) = .exn c w S := (rfl)
@[simp] theorem fin_bad : fin .bad = .bad := (rfl)
theorem call_eq {P : Prg} {wf k f : Nat} {d : Def} {ds : List D} {th : Thk} {S : Sto} (hd : P.defs[f]? = some d) (hl : ds.length = d.np) : callF P wf (k + 1) f ds th S = fin (exss (P.globs.map (·.2)) (subP P) (tab P wf k) wf d.body k th (startE d.N.length d.np ds) S) := by
  show (if k + 1 = k + 1 then _ else _) = _
  rw [if_pos rfl, hd]
  show (if ds.length = d.np then _ else _) = _
  rw [if_pos hl]
  unfold fin
  rfl
theorem tab1 {P : Prg} {wf j : Nat} : tab P wf j j = callF P wf j := (rfl)
/-! ### names -/
def look (o : Option (Option D)) (S : Sto) : R D := match o with
  | some (some (.exc _ _)) => .bad
  | some (some .lam) => .bad
  | some (some d) => .ok d S
  | _ => .bad
theorem q_v {G : List Int} {sub : Nat → Nat → Option Bool} {C : Nat → Fns} {n : Nat} {th : Thk} {ρ : Env} {S : Sto} (i : Nat) : ev G sub C (.var i) n th ρ S = look ρ[i]? S := (rfl)
@[simp] theorem look_non (S : Sto) : look (some (some .non)) S = .ok .non S := (rfl)
@[simp] theorem look_bl (b : Bool) (S : Sto) : look (some (some (.bl b))) S = .ok (.bl b) S := (rfl)
@[simp] theorem look_int (i : Int) (S : Sto) : look (some (some (.int i))) S = .ok (.int i) S := (rfl)
@[simp] theorem look_str (s : Str) (S : Sto) : look (some (some (.str s))) S = .ok (.str s) S := (rfl)
@[simp] theorem look_tup (l : List D) (S : Sto) : look (some (some (.tup l))) S = .ok (.tup l) S := (rfl)
@[simp] theorem look_lst (l : List D) (S : Sto) : look (some (some (.lst l))) S = .ok (.lst l) S := (rfl)
@[simp] theorem look_frz (l : List D) (S : Sto) : look (some (some (.frz l))) S = .ok (.frz l) S := (rfl)
@[simp] theorem look_ref (n : Nat) (S : Sto) : look (some (some (.ref n))) S = .ok (.ref n) S := (rfl)
/-! ### plain data -/
inductive PD : D → Prop
  | non : PD .non
  | bl (b) : PD (.bl b)
  | int (i) : PD (.int i)
  | str (s) : PD (.str s)
  | tup (l) (h : ∀ d ∈ l, PD d) : PD (.tup l)
theorem look_pd {t : D} (h : PD t) (S : Sto) : look (some (some t)) S = .ok t S := by cases h <;> rfl
theorem PD.mem {l : List D} (h : PD (.tup l)) : ∀ d ∈ l, PD d := by cases h; assumption
/-- small plain data, at most so deep -/
inductive Lv : Nat → D → Prop
  | non (n) : Lv n .non
  | bl (n b) : Lv n (.bl b)
  | int (n i) (h : -(2 ^ 127) < i ∧ i < 2 ^ 127) : Lv n (.int i)
  | str (n s) (h1 : s.cps.size ≤ 20) (h2 : PySem.PyData.canLay0 (.str s) = true) : Lv n (.str s)
  | tup (n l) (h1 : l.length ≤ 10) (h2 : ∀ d ∈ l, Lv n d) : Lv (n + 1) (.tup l)
theorem Lv.pd {n : Nat} {d : D} (h : Lv n d) : PD d := by
  induction h with
  | non => exact .non
  | bl => exact .bl _
  | int => exact .int _
  | str => exact .str _
  | tup n l _ _ ih => exact .tup _ ih
theorem Lv.up {n : Nat} {d : D} (h : Lv n d) : Lv (n + 1) d := by
  induction h with
  | non => exact .non _
  | bl => exact .bl _ _
  | int _ _ h => exact .int _ _ h
  | str _ _ h1 h2 => exact .str _ _ h1 h2
  | tup n l h1 _ ih => exact .tup _ _ h1 ih
theorem Lv.mem {n : Nat} {l : List D} (h : Lv n (.tup l)) : ∃ m, n = m + 1 ∧ l.length ≤ 10 ∧ ∀ d ∈ l, Lv m d := by
  cases h with
  | tup m l h1 h2 => exact ⟨m, rfl, h1, h2⟩
def wgtB : Nat → Nat
  | 0 => 20
  | n + 1 => 10 * (wgtB n + 1)
theorem wgtB_ge : ∀ n, 20 ≤ wgtB n
  | 0 => by decide
  | n + 1 => by
    have := wgtB_ge n
    simp only [wgtB]
    omega
theorem all_ok {l : List D} {n : Nat} (h : ∀ d ∈ l, ∃ p, toP d = some p ∧ p.canLay0 = true ∧ p.depth ≤ n ∧ p.bulk ≤ wgtB n ∧ p.showable = true ∧ p.leavesShort 44 = true) : ∃ ps, toPs l = some ps ∧ PyData.canLayAll0 ps = true ∧ PyData.depthAll ps ≤ n ∧ PyData.bulkAll ps ≤ l.length * (wgtB n + 1) ∧ PyData.showableAll ps = true ∧ PyData.leavesShortAll 44 ps = true := by
  induction l with
  | nil => exact ⟨[], rfl, rfl, Nat.zero_le _, Nat.zero_le _, rfl, rfl⟩
  | cons a l ih =>
    obtain ⟨p, h1, h2, h3, h4, h5, h6⟩ := h a (List.mem_cons_self ..)
    obtain ⟨ps, g1, g2, g3, g4, g5, g6⟩ := ih fun d hd => h d (List.mem_cons_of_mem _ hd)
    refine ⟨p :: ps, by simp only [toPs, h1, g1], by simp only [PyData.canLayAll0, h2, g2, Bool.and_self], ?_, ?_, by simp only [PyData.showableAll, h5, g5, Bool.and_self], by simp only [PyData.leavesShortAll, h6, g6, Bool.and_self]⟩
    · simp only [PyData.depthAll]; omega
    · simp only [PyData.bulkAll, List.length_cons, Nat.add_mul]; omega
theorem int_leaf {i : Int} (h : -(2 ^ 127) < i ∧ i < 2 ^ 127) : i.natAbs.log2 < 127 ∨ i = 0 := by
  by_cases z : i = 0
  · exact .inr z
  · refine .inl ?_
    have hn : i.natAbs ≠ 0 := by omega
    rw [Nat.log2_lt hn]
    omega
theorem Lv.data {n : Nat} {d : D} (h : Lv n d) : ∃ p, toP d = some p ∧ p.canLay0 = true ∧ p.depth ≤ n ∧ p.bulk ≤ wgtB n ∧ p.showable = true ∧ p.leavesShort 44 = true := by
  induction h with
  | non n => exact ⟨.none, rfl, rfl, Nat.zero_le _, Nat.zero_le _, rfl, rfl⟩
  | bl n b => exact ⟨.bool b, rfl, rfl, Nat.zero_le _, Nat.zero_le _, rfl, rfl⟩
  | int n i h =>
    have hl := int_leaf h
    have hg := wgtB_ge n
    refine ⟨.int i, rfl, rfl, Nat.zero_le _, Nat.zero_le _, ?_, ?_⟩
    · simp only [PyData.showable, decide_eq_true_eq]
      rcases hl with hl | hl
      · omega
      · rw [hl]; decide
    · simp only [PyData.leavesShort, decide_eq_true_eq]
      have e := int_text_length_le10 (k := 39) (a := i) (by decide) (by omega)
      show (Str.ofString (toString i)).length ≤ 44
      rw [ofString_length]
      omega
  | str n s h1 h2 =>
    have hg := wgtB_ge n
    refine ⟨.str s, rfl, h2, Nat.zero_le _, ?_, rfl, PyData.leavesShort_of_canLay0 44 _ h2 rfl⟩
    simp only [PyData.bulk]
    omega
  | tup n l h1 _ ih =>
    obtain ⟨ps, g1, g2, g3, g4, g5, g6⟩ := all_ok ih
    refine ⟨.tuple ps, by simp only [toP, g1, Option.map_some], by simp only [PyData.canLay0, g2], by simp only [PyData.depth]; omega, ?_, by simp only [PyData.showable, g5], by simp only [PyData.leavesShort, g6]⟩
    simp only [PyData.bulk, wgtB]
    have : l.length * (wgtB n + 1) ≤ 10 * (wgtB n + 1) := Nat.mul_le_mul_right _ h1
    omega
theorem Lv.repr {n : Nat} {d : D} (h : Lv n d) (hn : n ≤ 4) : ∃ r, reprD d = some r := by
  obtain ⟨p, h1, h2, h3, h4, h5, h6⟩ := h.data
  have hw : wgtB n ≤ wgtB 4 := by
    match n, hn with
    | 0, _ => decide
    | 1, _ => decide
    | 2, _ => decide
    | 3, _ => decide
    | 4, _ => decide
  have hl := PyData.shown_le_bulk 44 (by decide) p h6
  have hw4 : wgtB 4 = 211110 := by decide
  refine ⟨p.shown, ?_⟩
  unfold reprD
  rw [h1]
  show (if _ then _ else _) = _
  rw [if_pos]
  simp only [h5, SeqAt.shaped, h2, Bool.true_and, Bool.and_eq_true, decide_eq_true_eq]
  omega
theorem Lv.eq_nil {n : Nat} {l : List D} (h : ∀ d ∈ l, Lv n d) (hn : n ≤ 60) (S : Sto) : eqD (.lst l) (.lst []) S = some l.isEmpty := by
  obtain ⟨ps, g1, g2, g3, _⟩ := all_ok fun d hd => (h d hd).data
  have e1 : toP (.lst l) = some (.list ps) := by simp only [toP, g1, Option.map_some]
  have e2 : toP (.lst []) = some (.list []) := (rfl)
  show (match toP (.lst l), toP (.lst []) with
    | some p, some q => if SeqAt.shaped p && SeqAt.shaped q then some (PyData.eqv p q) else none
    | _, _ => none) = _
  rw [e1, e2]
  have hs : SeqAt.shaped (.list ps) = true := by
    have e : (PyData.list ps).depth = PyData.depthAll ps + 1 := by simp only [PyData.depth]
    have e' : (PyData.list ps).canLay0 = true := by simp only [PyData.canLay0, g2]
    simp only [SeqAt.shaped, e', e, Bool.true_and, decide_eq_true_eq]
    omega
  have hs' : SeqAt.shaped (.list []) = true := (rfl)
  show (if SeqAt.shaped (.list ps) && SeqAt.shaped (.list []) then some (PyData.eqv (.list ps) (.list [])) else none) = _
  rw [hs, hs', if_pos (by rfl)]
  cases l with
  | nil => cases g1; rfl
  | cons a l =>
    cases ps with
    | nil =>
      simp only [toPs] at g1
      split at g1 <;> cases g1
    | cons p ps => rfl
theorem eq_str (s : Str) (S : Sto) : eqD (.str s) (.str s) S = some true := by
  show some (s == s) = _
  rw [beq_self_eq_true]
/-! ### loops and comprehensions -/
inductive All2 {α β : Type} (Q : α → β → Prop) : List α → List β → Prop
  | nil : All2 Q [] []
  | cons {a b l r} (h : Q a b) (t : All2 Q l r) : All2 Q (a :: l) (b :: r)
theorem All2.length {α β : Type} {Q : α → β → Prop} {l : List α} {r : List β} (h : All2 Q l r) : r.length = l.length := by
  induction h with
  | nil => rfl
  | cons _ _ ih => simp [ih]
theorem All2.get {α β : Type} {Q : α → β → Prop} {l : List α} {r : List β} (h : All2 Q l r) : ∀ {i : Nat} {a : α}, l[i]? = some a → ∃ b, r[i]? = some b ∧ Q a b := by
  induction h with
  | nil => intro i a q; simp at q
  | cons h _ ih =>
    intro i a q
    cases i with
    | zero =>
      simp at q
      exact ⟨_, rfl, q ▸ h⟩
    | succ i => simpa using ih (by simpa using q)
theorem All2.mem {α β : Type} {Q : α → β → Prop} {l : List α} {r : List β} (h : All2 Q l r) : ∀ {b : β}, b ∈ r → ∃ a ∈ l, Q a b := by
  induction h with
  | nil => intro b q; cases q
  | cons h _ ih =>
    intro b q
    rcases List.mem_cons.mp q with q | q
    · exact ⟨_, List.mem_cons_self .., q ▸ h⟩
    · obtain ⟨a, h1, h2⟩ := ih q
      exact ⟨a, List.mem_cons_of_mem _ h1, h2⟩
theorem forL_inv {tg : Tg} {B : Env → Sto → RS} {I : Nat → Env → Sto → Prop} : ∀ (ds : List D) (i : Nat) (ρ : Env) (S : Sto), I i ρ S → (∀ (j : Nat) (d : D) (ρ : Env) (S : Sto), ds[j]? = some d → I (i + j) ρ S → ∃ ρ' ρ'' S', setTg tg d ρ = some ρ' ∧ B ρ' S = .next ρ'' S' ∧ I (i + j + 1) ρ'' S') → ∃ ρ' S', forL tg B ds ρ S = .next ρ' S' ∧ I (i + ds.length) ρ' S'
  | [], i, ρ, S, h, _ => ⟨ρ, S, rfl, h⟩
  | d :: ds, i, ρ, S, h, hs => by
    obtain ⟨ρ', ρ'', S', h1, h2, h3⟩ := hs 0 d ρ S rfl h
    obtain ⟨ρ3, S3, g1, g2⟩ := forL_inv ds (i + 1) ρ'' S' h3 fun j e ρ S q y => by
      have := hs (j + 1) e ρ S q (by rwa [show i + (j + 1) = i + 1 + j by omega])
      rwa [show i + (j + 1) + 1 = i + 1 + j + 1 by omega] at this
    refine ⟨ρ3, S3, ?_, by rwa [List.length_cons, show i + (ds.length + 1) = i + 1 + ds.length by omega]⟩
    unfold forL
    rw [h1]
    show (B ρ' S).bind _ = _
    rw [h2]
    exact g1
theorem forL_scan {tg : Tg} {B : Env → Sto → RS} {I : Env → Prop} {S : Sto} {ok : D → Bool} {r : D → D} : ∀ (ds : List D) (ρ : Env), I ρ → (∀ d ∈ ds, ∀ ρ, I ρ → ∃ ρ', setTg tg d ρ = some ρ' ∧ (ok d = true → ∃ ρ'', B ρ' S = .next ρ'' S ∧ I ρ'') ∧ (ok d = false → B ρ' S = .ret (r d) S)) →
    (∀ d, ds.find? (fun d => !ok d) = some d → forL tg B ds ρ S = .ret (r d) S) ∧ (ds.find? (fun d => !ok d) = none → ∃ ρ', forL tg B ds ρ S = .next ρ' S ∧ I ρ')
  | [], ρ, h, _ => And.intro (fun d q => by simp at q) (fun _ => ⟨ρ, rfl, h⟩)
  | d :: ds, ρ, h, hs => by
    obtain ⟨ρ', h1, h2, h3⟩ := hs d (List.mem_cons_self ..) ρ h
    have e : forL tg B (d :: ds) ρ S = (B ρ' S).bind fun ρ1 S1 => forL tg B ds ρ1 S1 := by
      conv => lhs; unfold forL
      rw [h1]
    rw [e]
    cases q : ok d with
    | true =>
      obtain ⟨ρ'', g1, g2⟩ := h2 q
      rw [g1]
      have ih := forL_scan ds ρ'' g2 fun d hd => hs d (List.mem_cons_of_mem _ hd)
      simpa [List.find?_cons, q] using ih
    | false =>
      rw [h3 q]
      simp [List.find?_cons, q]
/-- each item is kept -/
theorem compL_map {tg : Tg} {cond : Env → Sto → R Bool} {elt : Env → Sto → R D} {ρ : Env} {I : Sto → Prop} {Q : D → D → Prop} : ∀ (ds : List D) (S : Sto), I S → (∀ d ∈ ds, ∀ S, I S → ∃ ρ' x S', setTg tg d ρ = some ρ' ∧ cond ρ' S = .ok true S ∧ elt ρ' S = .ok x S' ∧ I S' ∧ Q d x) →
    ∃ xs S', compL tg cond elt ρ ds S = .ok xs S' ∧ I S' ∧ All2 Q ds xs
  | [], S, h, _ => ⟨[], S, rfl, h, .nil⟩
  | d :: ds, S, h, hs => by
    obtain ⟨ρ', x, S', h1, h2, h3, h4, h5⟩ := hs d (List.mem_cons_self ..) S h
    obtain ⟨xs, S2, g1, g2, g3⟩ := compL_map ds S' h4 fun d hd => hs d (List.mem_cons_of_mem _ hd)
    refine ⟨x :: xs, S2, ?_, g2, .cons h5 g3⟩
    unfold compL
    rw [h1]
    simp only [h2, R.bind_ok, h3, g1]
/-- some are kept -/
theorem compL_some {tg : Tg} {cond : Env → Sto → R Bool} {elt : Env → Sto → R D} {ρ : Env} {I : Sto → Prop} {Q : D → Prop} : ∀ (ds : List D) (S : Sto), I S → (∀ d ∈ ds, ∀ S, I S → ∃ ρ' b S1, setTg tg d ρ = some ρ' ∧ cond ρ' S = .ok b S1 ∧ I S1 ∧ ∃ x S', elt ρ' S1 = .ok x S' ∧ I S' ∧ Q x) →
    ∃ xs S', compL tg cond elt ρ ds S = .ok xs S' ∧ I S' ∧ xs.length ≤ ds.length ∧ ∀ x ∈ xs, Q x
  | [], S, h, _ => ⟨[], S, rfl, h, Nat.le_refl _, fun _ h => by cases h⟩
  | d :: ds, S, h, hs => by
    obtain ⟨ρ', b, S1, h1, h2, h3, x, S', h4, h5, h6⟩ := hs d (List.mem_cons_self ..) S h
    cases b with
    | true =>
      obtain ⟨xs, S2, g1, g2, g3, g4⟩ := compL_some ds S' h5 fun d hd => hs d (List.mem_cons_of_mem _ hd)
      refine ⟨x :: xs, S2, ?_, g2, by simp only [List.length_cons]; omega, fun y hy => by
        rcases List.mem_cons.mp hy with q | q
        · rw [q]; exact h6
        · exact g4 y q⟩
      unfold compL
      rw [h1]
      simp only [h2, R.bind_ok, h4, g1]
    | false =>
      obtain ⟨xs, S2, g1, g2, g3, g4⟩ := compL_some ds S1 h3 fun d hd => hs d (List.mem_cons_of_mem _ hd)
      refine ⟨xs, S2, ?_, g2, by simp only [List.length_cons]; omega, g4⟩
      unfold compL
      rw [h1]
      simp only [h2, R.bind_ok, g1]
section
variable {G : List Int} {sub : Nat → Nat → Option Bool} {C : Nat → Fns} {n : Nat} {th : Thk} {ρ : Env} {S : Sto}
theorem q_comp_map {tg : Tg} {it : It} {elt : Ex} {ds : List D} {S1 : Sto} {I : Sto → Prop} {Q : D → D → Prop} (h1 : evIt G sub C it n th ρ S = .ok ds S1) (h2 : ds.length ≤ 16777216) (hI : I S1)
    (h3 : ∀ d ∈ ds, ∀ S, I S → ∃ ρ' x S', setTg tg d ρ = some ρ' ∧ ev G sub C elt n th ρ' S = .ok x S' ∧ I S' ∧ Q d x) : ∃ xs S', ev G sub C (.comp false elt tg it .nil) n th ρ S = .ok (.lst xs) S' ∧ I S' ∧ All2 Q ds xs := by
  obtain ⟨xs, S', g1, g2, g3⟩ := compL_map (ρ := ρ) (tg := tg) (cond := fun ρ' S' => (evAll G sub C .nil n th ρ' S').nox) (elt := fun ρ' S' => (ev G sub C elt n th ρ' S').nox) (I := I) (Q := Q) ds S1 hI fun d hd S hS => by
    obtain ⟨ρ', x, S', k1, k2, k3, k4⟩ := h3 d hd S hS
    exact ⟨ρ', x, S', k1, rfl, by rw [k2]; rfl, k3, k4⟩
  refine ⟨xs, S', ?_, g2, g3⟩
  show (evIt G sub C it n th ρ S).bind _ = _
  rw [h1]
  show (if ds.length ≤ 16777216 then _ else _) = _
  rw [if_pos h2, g1]
  rfl
theorem q_comp_some {tg : Tg} {it : It} {elt : Ex} {conds : Exs} {ds : List D} {S1 : Sto} {I : Sto → Prop} {Q : D → Prop} (h1 : evIt G sub C it n th ρ S = .ok ds S1) (h2 : ds.length ≤ 16777216) (hI : I S1)
    (h3 : ∀ d ∈ ds, ∀ S, I S → ∃ ρ' b S1, setTg tg d ρ = some ρ' ∧ evAll G sub C conds n th ρ' S = .ok b S1 ∧ I S1 ∧ ∃ x S', ev G sub C elt n th ρ' S1 = .ok x S' ∧ I S' ∧ Q x) : ∃ xs S', ev G sub C (.comp false elt tg it conds) n th ρ S = .ok (.lst xs) S' ∧ I S' ∧ xs.length ≤ ds.length ∧ ∀ x ∈ xs, Q x := by
  obtain ⟨xs, S', g1, g2, g3⟩ := compL_some (ρ := ρ) (tg := tg) (cond := fun ρ' S' => (evAll G sub C conds n th ρ' S').nox) (elt := fun ρ' S' => (ev G sub C elt n th ρ' S').nox) (I := I) (Q := Q) ds S1 hI fun d hd S hS => by
    obtain ⟨ρ', b, S1, k1, k2, k3, x, S', k4, k5, k6⟩ := h3 d hd S hS
    exact ⟨ρ', b, S1, k1, by rw [k2]; rfl, k3, x, S', by rw [k4]; rfl, k5, k6⟩
  refine ⟨xs, S', ?_, g2, g3⟩
  show (evIt G sub C it n th ρ S).bind _ = _
  rw [h1]
  show (if ds.length ≤ 16777216 then _ else _) = _
  rw [if_pos h2, g1]
  rfl
end
/-! ### ranges -/
theorem rangeD_mem {d : D} : ∀ {n : Nat} {lo : Int}, d ∈ rangeD lo n → ∃ i, d = .int i ∧ lo ≤ i ∧ i < lo + n
  | 0, _, h => by cases h
  | n + 1, lo, h => by
    rcases List.mem_cons.mp h with q | q
    · exact ⟨lo, q, by omega, by omega⟩
    · obtain ⟨i, h1, h2, h3⟩ := rangeD_mem q
      exact ⟨i, h1, by omega, by omega⟩
theorem rangeD_len : ∀ {n : Nat} {lo : Int}, (rangeD lo n).length = n
  | 0, _ => rfl
  | n + 1, lo => by simp [rangeD, rangeD_len]
theorem w62 {n : Nat} (h : n ≤ 16777216) : within62 (n : Int) = true := by
  simp only [within62, decide_eq_true_eq]
  have : ((2 : Int) ^ 62) = 4611686018427387904 := by decide +kernel
  rw [this]
  omega
theorem it_range1 {G : List Int} {sub : Nat → Nat → Option Bool} {C : Nat → Fns} {l n : Nat} {th : Thk} {ρ : Env} {S S1 : Sto} {a : Ex} (h : ev G sub C a l th ρ S = .ok (.int n) S1) (hn : n ≤ 16777216) : evIt G sub C (.range1 a) l th ρ S = .ok (rangeD 0 n) S1 := by
  have g : ∀ w : Int → Bool, w (n : Int) = true → ((R.ok (D.int (n : Int)) S1).bind fun x S1 => match x with
    | .int n => if w n then .ok (rangeD 0 n.toNat) S1 else .bad
    | _ => .bad) = .ok (rangeD 0 n) S1 := fun w h => by
      show (if w (n : Int) then R.ok (rangeD 0 (n : Int).toNat) S1 else .bad) = _
      rw [if_pos h, Int.toNat_natCast]
  show (ev G sub C a l th ρ S).bind _ = _
  rw [h]
  exact g within62 (w62 hn)
theorem it_range2 {G : List Int} {sub : Nat → Nat → Option Bool} {C : Nat → Fns} {l i n : Nat} {th : Thk} {ρ : Env} {S S1 S2 : Sto} {a b : Ex} (ha : ev G sub C a l th ρ S = .ok (.int i) S1) (h : ev G sub C b l th ρ S1 = .ok (.int n) S2) (hi : i ≤ 16777216) (hn : n ≤ 16777216) : evIt G sub C (.range2 a b) l th ρ S = .ok (rangeD i (n - i)) S2 := by
  have g : ∀ w : Int → Bool, w (i : Int) = true → w (n : Int) = true → ∀ F : (Int → Bool) → D → D → Sto → R (List D), (∀ (w : Int → Bool) (i j : Int) S, F w (.int i) (.int j) S = if w i && w j then .ok (rangeD i (j - i).toNat) S else .bad) → ((R.ok (D.int (i : Int)) S1).bind fun x S1 => (ev G sub C b l th ρ S1).bind fun y S2 => F w x y S2) = .ok (rangeD i (n - i)) S2 := fun w h1 h2 F hF => by
      rw [R.bind_ok, h, R.bind_ok, hF, h1, h2, if_pos (by rfl), show ((n : Int) - (i : Int)).toNat = n - i by omega]
  show (ev G sub C a l th ρ S).bind _ = _
  rw [ha]
  exact g within62 (w62 hi) (w62 hn) (fun w x y S2 => match x, y with
    | .int i, .int j => if w i && w j then .ok (rangeD i (j - i).toNat) S2 else .bad
    | _, _ => .bad) (fun _ _ _ _ => rfl)
/-! ### where numbers are drawn from -/
def Wl (n : Nat) (S : Sto) : Prop := ∃ a b : Int, S[n]? = some (.lst [.int a, .int b]) ∧ 0 ≤ a ∧ 0 ≤ b ∧ b < 2147483647
/-- the source at n is one still; what stood there else stands -/
structure Up (n : Nat) (S S' : Sto) : Prop where
  len : S.length ≤ S'.length
  src : Wl n S'
  rest : ∀ m, m < S.length → m ≠ n → S'[m]? = S[m]?
theorem Up.refl {n : Nat} {S : Sto} (h : Wl n S) : Up n S S := ⟨Nat.le_refl _, h, fun _ _ _ => rfl⟩
theorem Up.trans {n : Nat} {S S1 S2 : Sto} (h : Up n S S1) (g : Up n S1 S2) : Up n S S2 := ⟨Nat.le_trans h.len g.len, g.src, fun m h1 h2 => (g.rest m (Nat.lt_of_lt_of_le h1 h.len) h2).trans (h.rest m h1 h2)⟩
theorem Wl.lt {n : Nat} {S : Sto} (h : Wl n S) : n < S.length := by
  obtain ⟨a, b, h, _⟩ := h
  exact (List.getElem?_eq_some_iff.mp h).1
theorem Up.keep {n m : Nat} {S S' : Sto} {o : O} (h : Up n S S') (hm : S[m]? = some o) (hn : m ≠ n) : S'[m]? = some o := by
  rw [h.rest m (List.getElem?_eq_some_iff.mp hm).1 hn, hm]
theorem Wl.keep {n m : Nat} {S S' : Sto} (h : Up n S S') (hm : Wl m S) : Wl m S' := by
  by_cases e : m = n
  · rw [e]; exact h.src
  · obtain ⟨a, b, h1, h2⟩ := hm
    exact ⟨a, b, h.keep h1 e, h2⟩
/-! ### arithmetic -/
theorem b_add (x y : Int) : binop .add (.int x) (.int y) = some (.int (x + y)) := (rfl)
theorem b_sub (x y : Int) : binop .sub (.int x) (.int y) = some (.int (x - y)) := (rfl)
theorem p2_64 : ((2 : Int) ^ 64) = 18446744073709551616 := by decide +kernel
theorem b_mulr {i j : Int} (h : -18446744073709551616 < j ∧ j < 18446744073709551616) : binop .mul (.int i) (.int j) = some (.int (i * j)) := by
  have e : binop .mul (.int i) (.int j) = (if (-(2 ^ 64) < i ∧ i < 2 ^ 64) ∨ (-(2 ^ 64) < j ∧ j < 2 ^ 64) then some (.int (i * j)) else none) := (rfl)
  rw [e, p2_64, if_pos (.inr h)]
theorem b_mull {i j : Int} (h : -18446744073709551616 < i ∧ i < 18446744073709551616) : binop .mul (.int i) (.int j) = some (.int (i * j)) := by
  have e : binop .mul (.int i) (.int j) = (if (-(2 ^ 64) < i ∧ i < 2 ^ 64) ∨ (-(2 ^ 64) < j ∧ j < 2 ^ 64) then some (.int (i * j)) else none) := (rfl)
  rw [e, p2_64, if_pos (.inl h)]
theorem b_mod {i j : Int} (h : 0 < j) : binop .mod (.int i) (.int j) = some (.int (i % j)) := by
  have e : binop .mod (.int i) (.int j) = (if 0 < j then some (.int (i % j)) else none) := (rfl)
  rw [e, if_pos h]
theorem b_fdiv {i j : Int} (h : 0 < j) (h2 : j < 1073741824) : binop .fdiv (.int i) (.int j) = some (.int (i / j)) := by
  have e : binop .fdiv (.int i) (.int j) = (if 0 < j ∧ j < 1073741824 then some (.int (i / j)) else none) := (rfl)
  rw [e, if_pos ⟨h, h2⟩]
theorem b_pow {i j : Int} (h1 : 0 ≤ j) (h2 : j ≤ 1000000) (h3 : i.natAbs < 2 ^ 64) : binop .pow (.int i) (.int j) = some (.int (i ^ j.toNat)) := by
  have e : binop .pow (.int i) (.int j) = (if 0 ≤ j ∧ j ≤ 1000000 ∧ i.natAbs < 2 ^ 64 then some (.int (i ^ j.toNat)) else none) := (rfl)
  rw [e, if_pos ⟨h1, h2, h3⟩]
theorem cb_len {a : D} {l : List D} {S : Sto} (h : items a S = some l) : callB .len [a] S = .ok (.int l.length) S := by
  have e : ∀ a, (∀ s, a ≠ .str s) → callB .len [a] S = opt ((items a S).map fun l => .int l.length) S := by
    intro a ha
    cases a with
    | str s => exact absurd rfl (ha s)
    | _ => rfl
  rw [e, h]
  · rfl
  · intro s q
    rw [q] at h
    cases h
theorem ixN_nat {n j : Nat} (h : j < n) : L2.ixN n (j : Int) = some j := by
  unfold L2.ixN
  simp
  omega
theorem index_nat {a : D} {l : List D} {S : Sto} {j : Nat} (h : items a S = some l) (hj : j < l.length) : index a (.int (j : Int)) S = some l[j] := by
  have e : index a (.int (j : Int)) S = L2.atI l (j : Int) := by
    unfold index
    rw [h]
  rw [e]
  unfold L2.atI
  rw [ixN_nat hj]
  simp [hj]
theorem index_int {a : D} {l : List D} {S : Sto} {i : Int} (h : items a S = some l) (h0 : 0 ≤ i) (hj : i < l.length) : ∃ (j : Nat) (hj : j < l.length), i = j ∧ index a (.int i) S = some l[j] := by
  have hi : i.toNat < l.length := by omega
  have e : i = (i.toNat : Int) := by omega
  refine ⟨i.toNat, hi, e, ?_⟩
  have := index_nat (a := a) (S := S) h hi
  rw [← e] at this
  exact this
theorem ints_all : ∀ ns : List Int, ∃ ps, toPs (ns.map .int) = some ps ∧ PyData.canLayAll0 ps = true ∧ PyData.depthAll ps = 0 ∧ ps.length = ns.length
  | [] => ⟨[], rfl, rfl, rfl, rfl⟩
  | i :: ns => by
    obtain ⟨ps, h1, h2, h3, h4⟩ := ints_all ns
    exact ⟨.int i :: ps, by simp [toPs, toP, h1], by simp [PyData.canLayAll0, PyData.canLay0, h2], by simp [PyData.depthAll, PyData.depth, h3], by simp [h4]⟩
theorem frz_eq (ns : List Int) (S : Sto) : eqD (.frz (ns.map .int)) (.lst []) S = some ns.isEmpty := by
    obtain ⟨ps, h1, h2, h3, h4⟩ := ints_all ns
    have e1 : toP (.frz (ns.map .int)) = some (.list ps) := by simp only [toP, h1, Option.map_some]
    have e2 : toP (.lst []) = some (.list []) := (rfl)
    show (match toP (.frz (ns.map .int)), toP (.lst []) with
      | some p, some q => if SeqAt.shaped p && SeqAt.shaped q then some (PyData.eqv p q) else none
      | _, _ => none) = _
    rw [e1, e2]
    have hs : SeqAt.shaped (.list ps) = true := by
      have e : (PyData.list ps).depth = PyData.depthAll ps + 1 := by simp only [PyData.depth]
      have e' : (PyData.list ps).canLay0 = true := by simp only [PyData.canLay0, h2]
      simp only [SeqAt.shaped, e', e, Bool.true_and, decide_eq_true_eq]
      omega
    have hs' : SeqAt.shaped (.list []) = true := (rfl)
    show (if SeqAt.shaped (.list ps) && SeqAt.shaped (.list []) then some (PyData.eqv (.list ps) (.list [])) else none) = _
    rw [hs, hs', if_pos (by rfl)]
    cases ps with
    | nil =>
      cases ns with
      | nil => rfl
      | cons _ _ => simp at h4
    | cons p ps =>
      cases ns with
      | nil => simp at h4
      | cons _ _ => rfl
/-- the list that names have, looked at -/
theorem e0 {a : Option D} {l : Env} : (a :: l)[0]? = some a := (rfl)
theorem e1 {a b : Option D} {l : Env} : (a :: b :: l)[1]? = some b := (rfl)
theorem e2 {a b c : Option D} {l : Env} : (a :: b :: c :: l)[2]? = some c := (rfl)
theorem e3 {a b c d : Option D} {l : Env} : (a :: b :: c :: d :: l)[3]? = some d := (rfl)
theorem e4 {a b c d e : Option D} {l : Env} : (a :: b :: c :: d :: e :: l)[4]? = some e := (rfl)
theorem e5 {a b c d e f : Option D} {l : Env} : (a :: b :: c :: d :: e :: f :: l)[5]? = some f := (rfl)
theorem e6 {a b c d e f g : Option D} {l : Env} : (a :: b :: c :: d :: e :: f :: g :: l)[6]? = some g := (rfl)
theorem e7 {a b c d e f g h : Option D} {l : Env} : (a :: b :: c :: d :: e :: f :: g :: h :: l)[7]? = some h := (rfl)
theorem w0 {a x : Option D} {l : Env} : (a :: l).set 0 x = x :: l := (rfl)
theorem w1 {a b x : Option D} {l : Env} : (a :: b :: l).set 1 x = a :: x :: l := (rfl)
theorem w2 {a b c x : Option D} {l : Env} : (a :: b :: c :: l).set 2 x = a :: b :: x :: l := (rfl)
theorem w3 {a b c d x : Option D} {l : Env} : (a :: b :: c :: d :: l).set 3 x = a :: b :: c :: x :: l := (rfl)
theorem w4 {a b c d e x : Option D} {l : Env} : (a :: b :: c :: d :: e :: l).set 4 x = a :: b :: c :: d :: x :: l := (rfl)
theorem w5 {a b c d e f x : Option D} {l : Env} : (a :: b :: c :: d :: e :: f :: l).set 5 x = a :: b :: c :: d :: e :: x :: l := (rfl)
theorem w6 {a b c d e f g x : Option D} {l : Env} : (a :: b :: c :: d :: e :: f :: g :: l).set 6 x = a :: b :: c :: d :: e :: f :: x :: l := (rfl)
theorem w7 {a b c d e f g h x : Option D} {l : Env} : (a :: b :: c :: d :: e :: f :: g :: h :: l).set 7 x = a :: b :: c :: d :: e :: f :: g :: x :: l := (rfl)
theorem e8 {x0 x1 x2 x3 x4 x5 x6 x7 x8 : Option D} {l : Env} : (x0 :: x1 :: x2 :: x3 :: x4 :: x5 :: x6 :: x7 :: x8 :: l)[8]? = some x8 := (rfl)
theorem w8 {x0 x1 x2 x3 x4 x5 x6 x7 x8 x : Option D} {l : Env} : (x0 :: x1 :: x2 :: x3 :: x4 :: x5 :: x6 :: x7 :: x8 :: l).set 8 x = x0 :: x1 :: x2 :: x3 :: x4 :: x5 :: x6 :: x7 :: x :: l := (rfl)
theorem e9 {x0 x1 x2 x3 x4 x5 x6 x7 x8 x9 : Option D} {l : Env} : (x0 :: x1 :: x2 :: x3 :: x4 :: x5 :: x6 :: x7 :: x8 :: x9 :: l)[9]? = some x9 := (rfl)
theorem w9 {x0 x1 x2 x3 x4 x5 x6 x7 x8 x9 x : Option D} {l : Env} : (x0 :: x1 :: x2 :: x3 :: x4 :: x5 :: x6 :: x7 :: x8 :: x9 :: l).set 9 x = x0 :: x1 :: x2 :: x3 :: x4 :: x5 :: x6 :: x7 :: x8 :: x :: l := (rfl)
theorem e10 {x0 x1 x2 x3 x4 x5 x6 x7 x8 x9 x10 : Option D} {l : Env} : (x0 :: x1 :: x2 :: x3 :: x4 :: x5 :: x6 :: x7 :: x8 :: x9 :: x10 :: l)[10]? = some x10 := (rfl)
theorem w10 {x0 x1 x2 x3 x4 x5 x6 x7 x8 x9 x10 x : Option D} {l : Env} : (x0 :: x1 :: x2 :: x3 :: x4 :: x5 :: x6 :: x7 :: x8 :: x9 :: x10 :: l).set 10 x = x0 :: x1 :: x2 :: x3 :: x4 :: x5 :: x6 :: x7 :: x8 :: x9 :: x :: l := (rfl)
theorem e11 {x0 x1 x2 x3 x4 x5 x6 x7 x8 x9 x10 x11 : Option D} {l : Env} : (x0 :: x1 :: x2 :: x3 :: x4 :: x5 :: x6 :: x7 :: x8 :: x9 :: x10 :: x11 :: l)[11]? = some x11 := (rfl)
theorem w11 {x0 x1 x2 x3 x4 x5 x6 x7 x8 x9 x10 x11 x : Option D} {l : Env} : (x0 :: x1 :: x2 :: x3 :: x4 :: x5 :: x6 :: x7 :: x8 :: x9 :: x10 :: x11 :: l).set 11 x = x0 :: x1 :: x2 :: x3 :: x4 :: x5 :: x6 :: x7 :: x8 :: x9 :: x10 :: x :: l := (rfl)
theorem e12 {x0 x1 x2 x3 x4 x5 x6 x7 x8 x9 x10 x11 x12 : Option D} {l : Env} : (x0 :: x1 :: x2 :: x3 :: x4 :: x5 :: x6 :: x7 :: x8 :: x9 :: x10 :: x11 :: x12 :: l)[12]? = some x12 := (rfl)
theorem w12 {x0 x1 x2 x3 x4 x5 x6 x7 x8 x9 x10 x11 x12 x : Option D} {l : Env} : (x0 :: x1 :: x2 :: x3 :: x4 :: x5 :: x6 :: x7 :: x8 :: x9 :: x10 :: x11 :: x12 :: l).set 12 x = x0 :: x1 :: x2 :: x3 :: x4 :: x5 :: x6 :: x7 :: x8 :: x9 :: x10 :: x11 :: x :: l := (rfl)
theorem e13 {x0 x1 x2 x3 x4 x5 x6 x7 x8 x9 x10 x11 x12 x13 : Option D} {l : Env} : (x0 :: x1 :: x2 :: x3 :: x4 :: x5 :: x6 :: x7 :: x8 :: x9 :: x10 :: x11 :: x12 :: x13 :: l)[13]? = some x13 := (rfl)
theorem w13 {x0 x1 x2 x3 x4 x5 x6 x7 x8 x9 x10 x11 x12 x13 x : Option D} {l : Env} : (x0 :: x1 :: x2 :: x3 :: x4 :: x5 :: x6 :: x7 :: x8 :: x9 :: x10 :: x11 :: x12 :: x13 :: l).set 13 x = x0 :: x1 :: x2 :: x3 :: x4 :: x5 :: x6 :: x7 :: x8 :: x9 :: x10 :: x11 :: x12 :: x :: l := (rfl)
theorem e14 {x0 x1 x2 x3 x4 x5 x6 x7 x8 x9 x10 x11 x12 x13 x14 : Option D} {l : Env} : (x0 :: x1 :: x2 :: x3 :: x4 :: x5 :: x6 :: x7 :: x8 :: x9 :: x10 :: x11 :: x12 :: x13 :: x14 :: l)[14]? = some x14 := (rfl)
theorem w14 {x0 x1 x2 x3 x4 x5 x6 x7 x8 x9 x10 x11 x12 x13 x14 x : Option D} {l : Env} : (x0 :: x1 :: x2 :: x3 :: x4 :: x5 :: x6 :: x7 :: x8 :: x9 :: x10 :: x11 :: x12 :: x13 :: x14 :: l).set 14 x = x0 :: x1 :: x2 :: x3 :: x4 :: x5 :: x6 :: x7 :: x8 :: x9 :: x10 :: x11 :: x12 :: x13 :: x :: l := (rfl)
theorem e15 {x0 x1 x2 x3 x4 x5 x6 x7 x8 x9 x10 x11 x12 x13 x14 x15 : Option D} {l : Env} : (x0 :: x1 :: x2 :: x3 :: x4 :: x5 :: x6 :: x7 :: x8 :: x9 :: x10 :: x11 :: x12 :: x13 :: x14 :: x15 :: l)[15]? = some x15 := (rfl)
theorem w15 {x0 x1 x2 x3 x4 x5 x6 x7 x8 x9 x10 x11 x12 x13 x14 x15 x : Option D} {l : Env} : (x0 :: x1 :: x2 :: x3 :: x4 :: x5 :: x6 :: x7 :: x8 :: x9 :: x10 :: x11 :: x12 :: x13 :: x14 :: x15 :: l).set 15 x = x0 :: x1 :: x2 :: x3 :: x4 :: x5 :: x6 :: x7 :: x8 :: x9 :: x10 :: x11 :: x12 :: x13 :: x14 :: x :: l := (rfl)
theorem e16 {x0 x1 x2 x3 x4 x5 x6 x7 x8 x9 x10 x11 x12 x13 x14 x15 x16 : Option D} {l : Env} : (x0 :: x1 :: x2 :: x3 :: x4 :: x5 :: x6 :: x7 :: x8 :: x9 :: x10 :: x11 :: x12 :: x13 :: x14 :: x15 :: x16 :: l)[16]? = some x16 := (rfl)
theorem w16 {x0 x1 x2 x3 x4 x5 x6 x7 x8 x9 x10 x11 x12 x13 x14 x15 x16 x : Option D} {l : Env} : (x0 :: x1 :: x2 :: x3 :: x4 :: x5 :: x6 :: x7 :: x8 :: x9 :: x10 :: x11 :: x12 :: x13 :: x14 :: x15 :: x16 :: l).set 16 x = x0 :: x1 :: x2 :: x3 :: x4 :: x5 :: x6 :: x7 :: x8 :: x9 :: x10 :: x11 :: x12 :: x13 :: x14 :: x15 :: x :: l := (rfl)
theorem e17 {x0 x1 x2 x3 x4 x5 x6 x7 x8 x9 x10 x11 x12 x13 x14 x15 x16 x17 : Option D} {l : Env} : (x0 :: x1 :: x2 :: x3 :: x4 :: x5 :: x6 :: x7 :: x8 :: x9 :: x10 :: x11 :: x12 :: x13 :: x14 :: x15 :: x16 :: x17 :: l)[17]? = some x17 := (rfl)
theorem w17 {x0 x1 x2 x3 x4 x5 x6 x7 x8 x9 x10 x11 x12 x13 x14 x15 x16 x17 x : Option D} {l : Env} : (x0 :: x1 :: x2 :: x3 :: x4 :: x5 :: x6 :: x7 :: x8 :: x9 :: x10 :: x11 :: x12 :: x13 :: x14 :: x15 :: x16 :: x17 :: l).set 17 x = x0 :: x1 :: x2 :: x3 :: x4 :: x5 :: x6 :: x7 :: x8 :: x9 :: x10 :: x11 :: x12 :: x13 :: x14 :: x15 :: x16 :: x :: l := (rfl)
theorem e18 {x0 x1 x2 x3 x4 x5 x6 x7 x8 x9 x10 x11 x12 x13 x14 x15 x16 x17 x18 : Option D} {l : Env} : (x0 :: x1 :: x2 :: x3 :: x4 :: x5 :: x6 :: x7 :: x8 :: x9 :: x10 :: x11 :: x12 :: x13 :: x14 :: x15 :: x16 :: x17 :: x18 :: l)[18]? = some x18 := (rfl)
theorem w18 {x0 x1 x2 x3 x4 x5 x6 x7 x8 x9 x10 x11 x12 x13 x14 x15 x16 x17 x18 x : Option D} {l : Env} : (x0 :: x1 :: x2 :: x3 :: x4 :: x5 :: x6 :: x7 :: x8 :: x9 :: x10 :: x11 :: x12 :: x13 :: x14 :: x15 :: x16 :: x17 :: x18 :: l).set 18 x = x0 :: x1 :: x2 :: x3 :: x4 :: x5 :: x6 :: x7 :: x8 :: x9 :: x10 :: x11 :: x12 :: x13 :: x14 :: x15 :: x16 :: x17 :: x :: l := (rfl)
theorem e19 {x0 x1 x2 x3 x4 x5 x6 x7 x8 x9 x10 x11 x12 x13 x14 x15 x16 x17 x18 x19 : Option D} {l : Env} : (x0 :: x1 :: x2 :: x3 :: x4 :: x5 :: x6 :: x7 :: x8 :: x9 :: x10 :: x11 :: x12 :: x13 :: x14 :: x15 :: x16 :: x17 :: x18 :: x19 :: l)[19]? = some x19 := (rfl)
theorem w19 {x0 x1 x2 x3 x4 x5 x6 x7 x8 x9 x10 x11 x12 x13 x14 x15 x16 x17 x18 x19 x : Option D} {l : Env} : (x0 :: x1 :: x2 :: x3 :: x4 :: x5 :: x6 :: x7 :: x8 :: x9 :: x10 :: x11 :: x12 :: x13 :: x14 :: x15 :: x16 :: x17 :: x18 :: x19 :: l).set 19 x = x0 :: x1 :: x2 :: x3 :: x4 :: x5 :: x6 :: x7 :: x8 :: x9 :: x10 :: x11 :: x12 :: x13 :: x14 :: x15 :: x16 :: x17 :: x18 :: x :: l := (rfl)
theorem e20 {x0 x1 x2 x3 x4 x5 x6 x7 x8 x9 x10 x11 x12 x13 x14 x15 x16 x17 x18 x19 x20 : Option D} {l : Env} : (x0 :: x1 :: x2 :: x3 :: x4 :: x5 :: x6 :: x7 :: x8 :: x9 :: x10 :: x11 :: x12 :: x13 :: x14 :: x15 :: x16 :: x17 :: x18 :: x19 :: x20 :: l)[20]? = some x20 := (rfl)
theorem w20 {x0 x1 x2 x3 x4 x5 x6 x7 x8 x9 x10 x11 x12 x13 x14 x15 x16 x17 x18 x19 x20 x : Option D} {l : Env} : (x0 :: x1 :: x2 :: x3 :: x4 :: x5 :: x6 :: x7 :: x8 :: x9 :: x10 :: x11 :: x12 :: x13 :: x14 :: x15 :: x16 :: x17 :: x18 :: x19 :: x20 :: l).set 20 x = x0 :: x1 :: x2 :: x3 :: x4 :: x5 :: x6 :: x7 :: x8 :: x9 :: x10 :: x11 :: x12 :: x13 :: x14 :: x15 :: x16 :: x17 :: x18 :: x19 :: x :: l := (rfl)
theorem e21 {x0 x1 x2 x3 x4 x5 x6 x7 x8 x9 x10 x11 x12 x13 x14 x15 x16 x17 x18 x19 x20 x21 : Option D} {l : Env} : (x0 :: x1 :: x2 :: x3 :: x4 :: x5 :: x6 :: x7 :: x8 :: x9 :: x10 :: x11 :: x12 :: x13 :: x14 :: x15 :: x16 :: x17 :: x18 :: x19 :: x20 :: x21 :: l)[21]? = some x21 := (rfl)
theorem w21 {x0 x1 x2 x3 x4 x5 x6 x7 x8 x9 x10 x11 x12 x13 x14 x15 x16 x17 x18 x19 x20 x21 x : Option D} {l : Env} : (x0 :: x1 :: x2 :: x3 :: x4 :: x5 :: x6 :: x7 :: x8 :: x9 :: x10 :: x11 :: x12 :: x13 :: x14 :: x15 :: x16 :: x17 :: x18 :: x19 :: x20 :: x21 :: l).set 21 x = x0 :: x1 :: x2 :: x3 :: x4 :: x5 :: x6 :: x7 :: x8 :: x9 :: x10 :: x11 :: x12 :: x13 :: x14 :: x15 :: x16 :: x17 :: x18 :: x19 :: x20 :: x :: l := (rfl)
theorem e22 {x0 x1 x2 x3 x4 x5 x6 x7 x8 x9 x10 x11 x12 x13 x14 x15 x16 x17 x18 x19 x20 x21 x22 : Option D} {l : Env} : (x0 :: x1 :: x2 :: x3 :: x4 :: x5 :: x6 :: x7 :: x8 :: x9 :: x10 :: x11 :: x12 :: x13 :: x14 :: x15 :: x16 :: x17 :: x18 :: x19 :: x20 :: x21 :: x22 :: l)[22]? = some x22 := (rfl)
theorem w22 {x0 x1 x2 x3 x4 x5 x6 x7 x8 x9 x10 x11 x12 x13 x14 x15 x16 x17 x18 x19 x20 x21 x22 x : Option D} {l : Env} : (x0 :: x1 :: x2 :: x3 :: x4 :: x5 :: x6 :: x7 :: x8 :: x9 :: x10 :: x11 :: x12 :: x13 :: x14 :: x15 :: x16 :: x17 :: x18 :: x19 :: x20 :: x21 :: x22 :: l).set 22 x = x0 :: x1 :: x2 :: x3 :: x4 :: x5 :: x6 :: x7 :: x8 :: x9 :: x10 :: x11 :: x12 :: x13 :: x14 :: x15 :: x16 :: x17 :: x18 :: x19 :: x20 :: x21 :: x :: l := (rfl)
theorem e23 {x0 x1 x2 x3 x4 x5 x6 x7 x8 x9 x10 x11 x12 x13 x14 x15 x16 x17 x18 x19 x20 x21 x22 x23 : Option D} {l : Env} : (x0 :: x1 :: x2 :: x3 :: x4 :: x5 :: x6 :: x7 :: x8 :: x9 :: x10 :: x11 :: x12 :: x13 :: x14 :: x15 :: x16 :: x17 :: x18 :: x19 :: x20 :: x21 :: x22 :: x23 :: l)[23]? = some x23 := (rfl)
theorem w23 {x0 x1 x2 x3 x4 x5 x6 x7 x8 x9 x10 x11 x12 x13 x14 x15 x16 x17 x18 x19 x20 x21 x22 x23 x : Option D} {l : Env} : (x0 :: x1 :: x2 :: x3 :: x4 :: x5 :: x6 :: x7 :: x8 :: x9 :: x10 :: x11 :: x12 :: x13 :: x14 :: x15 :: x16 :: x17 :: x18 :: x19 :: x20 :: x21 :: x22 :: x23 :: l).set 23 x = x0 :: x1 :: x2 :: x3 :: x4 :: x5 :: x6 :: x7 :: x8 :: x9 :: x10 :: x11 :: x12 :: x13 :: x14 :: x15 :: x16 :: x17 :: x18 :: x19 :: x20 :: x21 :: x22 :: x :: l := (rfl)
theorem e24 {x0 x1 x2 x3 x4 x5 x6 x7 x8 x9 x10 x11 x12 x13 x14 x15 x16 x17 x18 x19 x20 x21 x22 x23 x24 : Option D} {l : Env} : (x0 :: x1 :: x2 :: x3 :: x4 :: x5 :: x6 :: x7 :: x8 :: x9 :: x10 :: x11 :: x12 :: x13 :: x14 :: x15 :: x16 :: x17 :: x18 :: x19 :: x20 :: x21 :: x22 :: x23 :: x24 :: l)[24]? = some x24 := (rfl)
theorem w24 {x0 x1 x2 x3 x4 x5 x6 x7 x8 x9 x10 x11 x12 x13 x14 x15 x16 x17 x18 x19 x20 x21 x22 x23 x24 x : Option D} {l : Env} : (x0 :: x1 :: x2 :: x3 :: x4 :: x5 :: x6 :: x7 :: x8 :: x9 :: x10 :: x11 :: x12 :: x13 :: x14 :: x15 :: x16 :: x17 :: x18 :: x19 :: x20 :: x21 :: x22 :: x23 :: x24 :: l).set 24 x = x0 :: x1 :: x2 :: x3 :: x4 :: x5 :: x6 :: x7 :: x8 :: x9 :: x10 :: x11 :: x12 :: x13 :: x14 :: x15 :: x16 :: x17 :: x18 :: x19 :: x20 :: x21 :: x22 :: x23 :: x :: l := (rfl)
theorem st0 (np : Nat) (ds : List D) : startE np np ds = ds.map some := by simp [startE]
theorem call_to {P : Prg} {wf k f : Nat} {d : Def} {ds : List D} {th : Thk} {S : Sto} {ρ : Env} {G : List Int} (hd : P.defs[f]? = some d) (hl : ds.length = d.np) (hρ : startE d.N.length d.np ds = ρ) (hG : P.globs.map (·.2) = G) : callF P wf (k + 1) f ds th S = fin (exss G (subP P) (tab P wf k) wf d.body k th ρ S) := by
  rw [call_eq hd hl, hρ, hG]
theorem p10_18 : ((10 : Int) ^ (18 : Int).toNat) = 1000000000000000000 := by decide +kernel
theorem b_10_18 : binop .pow (.int 10) (.int 18) = some (.int 1000000000000000000) := by
  rw [b_pow (by decide) (by decide) (by decide), p10_18]
theorem p10_20 : ((10 : Int) ^ (20 : Int).toNat) = 100000000000000000000 := by decide +kernel
theorem b_10_20 : binop .pow (.int 10) (.int 20) = some (.int 100000000000000000000) := by
  rw [b_pow (by decide) (by decide) (by decide), p10_20]
theorem p10_30 : ((10 : Int) ^ (30 : Int).toNat) = 1000000000000000000000000000000 := by decide +kernel
theorem b_10_30 : binop .pow (.int 10) (.int 30) = some (.int 1000000000000000000000000000000) := by
  rw [b_pow (by decide) (by decide) (by decide), p10_30]
/-! the evaluator's steps once more, none of them a reduction -/
section
variable {α β : Type} {G : List Int} {sub : Nat → Nat → Option Bool} {C : Nat → Fns} {n : Nat} {th : Thk} {ρ : Env} {S : Sto}
theorem rb_ok (a : α) (S : Sto) (f : α → Sto → R β) : (R.ok a S).bind f = f a S := (rfl)
theorem rb_exn (c : Nat) (w : D) (S : Sto) (f : α → Sto → R β) : (R.exn c w S : R α).bind f = .exn c w S := (rfl)
theorem rg_ok (a : α) (S : Sto) (ρ : Env) (f : α → Sto → RS) : (R.ok a S).go ρ f = f a S := (rfl)
theorem rg_exn (c : Nat) (w : D) (S : Sto) (ρ : Env) (f : α → Sto → RS) : (R.exn c w S : R α).go ρ f = .exn c w ρ S := (rfl)
theorem rs_next (ρ : Env) (S : Sto) (f : Env → Sto → RS) : (RS.next ρ S).bind f = f ρ S := (rfl)
theorem rs_ret (d : D) (S : Sto) (f : Env → Sto → RS) : (RS.ret d S).bind f = .ret d S := (rfl)
theorem rs_exn (c : Nat) (w : D) (ρ : Env) (S : Sto) (f : Env → Sto → RS) : (RS.exn c w ρ S).bind f = .exn c w ρ S := (rfl)
theorem op_some (a : α) (S : Sto) : opt (some a) S = .ok a S := (rfl)
theorem om_some (f : α → β) (a : α) : (some a).map f = some (f a) := (rfl)
theorem f_next (ρ : Env) (S : Sto) : fin (.next ρ S) = .ok .non S := (rfl)
theorem f_ret (x : D) (S : Sto) : fin (.ret x S) = .ok x S := (rfl)
theorem f_exn (c : Nat) (w : D) (ρ : Env) (S : Sto) : fin (.exn c w ρ S) = .exn c w S := (rfl)
theorem sg_nm (i : Nat) (d : D) (ρ : Env) : setTg (.nm i) d ρ = some (ρ.set i (some d)) := (rfl)
theorem sg_tp (l : List Nat) (ds : List D) (ρ : Env) : setTg (.tp l) (.tup ds) ρ = setAll l ds ρ := (rfl)
theorem sg_tp2 (i : Nat) (l : List Nat) (d : D) (ds : List D) (ρ : Env) : setTg (.tp2 i l) (.tup [d, .tup ds]) ρ = setAll l ds (ρ.set i (some d)) := (rfl)
theorem sa_nil (ρ : Env) : setAll [] [] ρ = some ρ := (rfl)
theorem sa_cons (i : Nat) (l : List Nat) (d : D) (ds : List D) (ρ : Env) : setAll (i :: l) (d :: ds) ρ = setAll l ds (ρ.set i (some d)) := (rfl)
theorem t_bl (b : Bool) (S : Sto) : truthy (.bl b) S = some b := (rfl)
theorem t_non (S : Sto) : truthy .non S = some false := (rfl)
theorem t_int (i : Int) (S : Sto) : truthy (.int i) S = some (i != 0) := (rfl)
theorem t_tup (l : List D) (S : Sto) : truthy (.tup l) S = some (!l.isEmpty) := (rfl)
theorem t_lst (l : List D) (S : Sto) : truthy (.lst l) S = some (!l.isEmpty) := (rfl)
theorem es_nil : evs G sub C .nil n th ρ S = .ok [] S := (rfl)
theorem es_cons (a : Ex) (l : Exs) : evs G sub C (.cons a l) n th ρ S = (ev G sub C a n th ρ S).bind fun x S1 => (evs G sub C l n th ρ S1).bind fun xs S2 => .ok (x :: xs) S2 := (rfl)
theorem ea_one (a : Ex) : evAnd G sub C (.cons a .nil) n th ρ S = ev G sub C a n th ρ S := (rfl)
theorem ea_cons (a b : Ex) (l : Exs) : evAnd G sub C (.cons a (.cons b l)) n th ρ S = (ev G sub C a n th ρ S).bind fun x S1 => match truthy x S1 with
    | some true => evAnd G sub C (.cons b l) n th ρ S1
    | some false => .ok x S1
    | none => .bad := (rfl)
theorem eo_one (a : Ex) : evOr G sub C (.cons a .nil) n th ρ S = ev G sub C a n th ρ S := (rfl)
theorem eo_cons (a b : Ex) (l : Exs) : evOr G sub C (.cons a (.cons b l)) n th ρ S = (ev G sub C a n th ρ S).bind fun x S1 => match truthy x S1 with
    | some false => evOr G sub C (.cons b l) n th ρ S1
    | some true => .ok x S1
    | none => .bad := (rfl)
theorem el_nil : evAll G sub C .nil n th ρ S = .ok true S := (rfl)
theorem el_cons (a : Ex) (l : Exs) : evAll G sub C (.cons a l) n th ρ S = (ev G sub C a n th ρ S).bind fun x S1 => match truthy x S1 with
    | some true => evAll G sub C l n th ρ S1
    | some false => .ok false S1
    | none => .bad := (rfl)
theorem it_seq (e : Ex) : evIt G sub C (.seq e) n th ρ S = (ev G sub C e n th ρ S).bind fun x S1 => opt (seqD x) S1 := (rfl)
theorem it_enum (e : Ex) : evIt G sub C (.enum e) n th ρ S = (ev G sub C e n th ρ S).bind fun x S1 => opt ((seqD x).map fun l => enumD l 0) S1 := (rfl)
theorem sd_tup (l : List D) : seqD (.tup l) = some l := (rfl)
theorem sd_lst (l : List D) : seqD (.lst l) = some l := (rfl)
theorem c_eq (a b : D) (S : Sto) : cmpop .eq a b S = eqD a b S := (rfl)
theorem c_ne (a b : D) (S : Sto) : cmpop .ne a b S = (eqD a b S).map (!·) := (rfl)
theorem c_lt (i j : Int) (S : Sto) : cmpop .lt (.int i) (.int j) S = some (decide (i < j)) := (rfl)
theorem c_le (i j : Int) (S : Sto) : cmpop .le (.int i) (.int j) S = some (decide (i ≤ j)) := (rfl)
theorem c_gt (i j : Int) (S : Sto) : cmpop .gt (.int i) (.int j) S = some (decide (j < i)) := (rfl)
theorem c_ge (i j : Int) (S : Sto) : cmpop .ge (.int i) (.int j) S = some (decide (j ≤ i)) := (rfl)
theorem c_is (a : D) (S : Sto) : cmpop .is_ a .non S = some (isNon a) := (rfl)
theorem c_isnot (a : D) (S : Sto) : cmpop .isnot a .non S = some (!isNon a) := (rfl)
theorem c_in {a b : D} {l : List D} {S : Sto} (h : items b S = some l) : cmpop .isin a b S = inD a l := by
  show (match items b S with
    | some l => inD a l
    | none => none) = _
  rw [h]
theorem c_notin {a b : D} {l : List D} {S : Sto} (h : items b S = some l) : cmpop .notin a b S = (inD a l).map (!·) := by
  show (match items b S with
    | some l => (inD a l).map (!·)
    | none => none) = _
  rw [h]
theorem i_tup (l : List D) (S : Sto) : items (.tup l) S = some l := (rfl)
theorem i_lst (l : List D) (S : Sto) : items (.lst l) S = some l := (rfl)
theorem eq_int (i j : Int) (S : Sto) : eqD (.int i) (.int j) S = some (i == j) := (rfl)
theorem eq_bl (i j : Bool) (S : Sto) : eqD (.bl i) (.bl j) S = some (i == j) := (rfl)
theorem cb_isI (t : Ty) (a : D) (S : Sto) : callB (.isI t) [a] S = opt ((isTy a t).map .bl) S := (rfl)
theorem cb_tuple (a : D) (S : Sto) : callB .tuple [a] S = opt ((items a S).map .tup) S := (rfl)
theorem cb_list (a : D) (S : Sto) : callB .list [a] S = opt ((items a S).map .lst) S := (rfl)
theorem cb_repr (a : D) (S : Sto) : callB .repr [a] S = opt ((reprD a).map .str) S := (rfl)
theorem cb_lenL (l : List D) (S : Sto) : callB .len [.lst l] S = .ok (.int l.length) S := (rfl)
theorem cb_lenT (l : List D) (S : Sto) : callB .len [.tup l] S = .ok (.int l.length) S := (rfl)
theorem isN_non : isNon .non = true := (rfl)
theorem isN_int (i : Int) : isNon (.int i) = false := (rfl)
theorem isN_tup (l : List D) : isNon (.tup l) = false := (rfl)
end
def setR (x y d : D) (ρ : Env) (S3 : Sto) : RS := match x, y with
    | .ref m, .int j => match S3[m]? with
      | some (.lst l) => match L2.ixN l.length j with
        | some k => .next ρ (S3.set m (.lst (l.set k d)))
        | none => .bad
      | _ => .bad
    | _, _ => .bad
theorem q_setIx {G : List Int} {sub : Nat → Nat → Option Bool} {C : Nat → Fns} {n wf : Nat} {th : Thk} {ρ : Env} {S : Sto} (a i e : Ex) : exs G sub C wf (.setIx a i e) n th ρ S = (ev G sub C e n th ρ S).go ρ fun d S1 => (ev G sub C a n th ρ S1).go ρ fun x S2 => (ev G sub C i n th ρ S2).go ρ fun y S3 => setR x y d ρ S3 := (rfl)
theorem setR_ok {m j : Nat} {l : List D} {d : D} {ρ : Env} {S : Sto} (h : S[m]? = some (.lst l)) (hj : j < l.length) : setR (.ref m) (.int (j : Int)) d ρ S = .next ρ (S.set m (.lst (l.set j d))) := by
  simp only [setR, h, ixN_nat hj]
theorem i_ref {n : Nat} {l : List D} {S : Sto} (h : S[n]? = some (.lst l)) : items (.ref n) S = some l := by
  show (match S[n]? with
    | some (.lst l) => some l
    | _ => none) = _
  rw [h]
theorem Wl.app {n : Nat} {S : Sto} (h : Wl n S) (o : O) : Up n S (S ++ [o]) := by
  have hn := h.lt
  obtain ⟨a, b, h1, h2⟩ := h
  exact ⟨by simp, ⟨a, b, by rw [List.getElem?_append_left hn]; exact h1, h2⟩, fun m hm _ => by rw [List.getElem?_append_left hm]⟩
theorem app_last {S : Sto} {o : O} : (S ++ [o])[S.length]? = some o := by simp
/-- what stands behind the beginning changes -/
theorem Up.set {n p : Nat} {S S' : Sto} {o : O} (h : Up n S S') (hp : S.length ≤ p) (hn : n < S.length) : Up n S (S'.set p o) := by
  refine ⟨by simpa using h.len, ?_, fun m h1 h2 => ?_⟩
  · obtain ⟨a, b, h1, h2⟩ := h.src
    exact ⟨a, b, by rw [List.getElem?_set_ne (by omega)]; exact h1, h2⟩
  · rw [List.getElem?_set_ne (by omega)]
    exact h.rest m h1 h2
theorem ints_ex {l : List D} (h : ∀ d ∈ l, ∃ i, d = .int i) : ∃ r : List Int, l = r.map .int := by
  induction l with
  | nil => exact ⟨[], rfl⟩
  | cons a l ih =>
    obtain ⟨i, rfl⟩ := h a (List.mem_cons_self ..)
    obtain ⟨r, rfl⟩ := ih fun d hd => h d (List.mem_cons_of_mem _ hd)
    exact ⟨i :: r, rfl⟩
section
variable {G : List Int} {sub : Nat → Nat → Option Bool} {C : Nat → Fns} {n wf : Nat} {th : Thk} {ρ : Env} {S : Sto}
theorem q_lam (m f : Nat) (e : Ex) : ev G sub C (.lamcall f e) (m + 2) th ρ S = C (m + 2) f [.lam] (fun S' => ev G sub C e m noThk ρ S') S := (rfl)
theorem q_try (b : Sms) (h : Hds) : exs G sub C wf (.try_ b h) n th ρ S = tryR (exss G sub C wf b n th ρ S) fun c w ρ1 S1 => hds G sub C wf h n c w ρ1 S1 := (rfl)
theorem try_ret (d : D) (S : Sto) (h : Nat → D → Env → Sto → RS) : tryR (.ret d S) h = .ret d S := (rfl)
theorem try_next (ρ : Env) (S : Sto) (h : Nat → D → Env → Sto → RS) : tryR (.next ρ S) h = .next ρ S := (rfl)
theorem try_exn (c : Nat) (w : D) (ρ : Env) (S : Sto) (h : Nat → D → Env → Sto → RS) : tryR (.exn c w ρ S) h = h c w ρ S := (rfl)
theorem hd_some {k j c : Nat} {w : D} {b : Sms} {l : Hds} (h : sub c k = some true) : hds G sub C wf (.cons k (some j) b l) n c w ρ S = endH j (exss G sub C wf b n noThk ((clean ρ).set j (some (.exc c w))) S) := by
  show (match sub c k with
    | some true => _
    | some false => _
    | none => _) = _
  rw [h]
theorem hd_none {k c : Nat} {w : D} {b : Sms} {l : Hds} (h : sub c k = some true) : hds G sub C wf (.cons k none b l) n c w ρ S = endN (exss G sub C wf b n noThk ρ S) := by
  show (match sub c k with
    | some true => _
    | some false => _
    | none => _) = _
  rw [h]
theorem hd_skip {k c : Nat} {i : Option Nat} {w : D} {b : Sms} {l : Hds} (h : sub c k = some false) : hds G sub C wf (.cons k i b l) n c w ρ S = hds G sub C wf l n c w ρ S := by
  show (match sub c k with
    | some true => _
    | some false => _
    | none => _) = _
  rw [h]
theorem endH_ret (j : Nat) (d : D) (S : Sto) : endH j (.ret d S) = .ret d S := (rfl)
theorem endN_ret (d : D) (S : Sto) : endN (.ret d S) = .ret d S := (rfl)
theorem act_lam {i : Nat} (h : ρ[i]? = some (some .lam)) : ev G sub C (.act i) n th ρ S = th S := by
  show (match ρ[i]? with
    | some (some .lam) => th S
    | _ => .bad) = _
  rw [h]
theorem what_exc {i c : Nat} {w : D} (h : ρ[i]? = some (some (.exc c w))) : ev G sub C (.what i) n th ρ S = .ok w S := by
  show (match ρ[i]? with
    | some (some (.exc _ w)) => R.ok w S
    | _ => .bad) = _
  rw [h]
theorem isx_exc {i c k : Nat} {w : D} {b : Bool} (h : ρ[i]? = some (some (.exc c w))) (hs : sub c k = some b) : ev G sub C (.isX i k) n th ρ S = .ok (.bl b) S := by
  show (match ρ[i]? with
    | some (some (.exc c _)) => opt ((sub c k).map D.bl) S
    | _ => R.bad) = _
  rw [h]
  show opt ((sub c k).map D.bl) S = _
  rw [hs]
  rfl
end
theorem eqD_self_str (s : Str) (S : Sto) : eqD (.str s) (.str s) S = some true := eq_str s S
theorem repr_bl (b : Bool) : ∃ r, Bh.reprD (D.bl b) = some r := Lv.repr (Lv.bl 0 b) (by decide)
end Bh

set_option Elab.async false
set_option linter.all false
set_option maxRecDepth 100000
set_option maxHeartbeats 1000000
namespace BhK00
open Bh
section
variable {wf k : Nat} {th : Thk} {S : Sto}
theorem lt30 {t : Int} (h : t ≤ 1000000) : t < 1073741824 := by omega
/-- a number is drawn -/
theorem s_take {n : Nat} {top : Int} (h : Wl n S) (h1 : 0 < top) (h2 : top ≤ 1000000) : ∃ v S', callF prg wf (k + 1) 12 [.ref n, .int top] th S = .ok (.int v) S' ∧ 0 ≤ v ∧ v < top ∧ Up n S S' := by
  obtain ⟨a, b, hs, ha, hb, hb2⟩ := h
  have hn : n < S.length := (List.getElem?_eq_some_iff.mp hs).1
  rw [call_to (d := d12) (ρ := [some (.ref n), some (.int top), none]) (G := GP) rfl rfl rfl rfl]
  have ix0 : ∀ (S : Sto) a b, S[n]? = some (.lst [.int a, .int b]) → index (.ref n) (.int 0) S = some (.int a) := fun S a b h => index_nat (j := 0) (i_ref h) (by simp)
  have ix1 : ∀ (S : Sto) a b, S[n]? = some (.lst [.int a, .int b]) → index (.ref n) (.int 1) S = some (.int b) := fun S a b h => index_nat (j := 1) (i_ref h) (by simp)
  have hd : ∀ x : Int, binop .fdiv (.int x) (.int top) = some (.int (x / top)) := fun x => b_fdiv h1 (lt30 h2)
  have hm : ∀ x : Int, binop .mod (.int x) (.int top) = some (.int (x % top)) := fun x => b_mod h1
  have ci : ∀ (i : Int) (S : Sto), callB .int [.int i] S = .ok (.int i) S := fun _ _ => (rfl)
  by_cases p : 0 < a
  · refine ⟨a % top, S.set n (.lst [.int (a / top), .int b]), ?_, Int.emod_nonneg _ (by omega), Int.emod_lt_of_pos _ h1, ⟨by simp, ⟨a / top, b, by simp [hn], Int.ediv_nonneg ha (by omega), hb, hb2⟩, fun m _ hne => by rw [List.getElem?_set_ne (Ne.symm hne)]⟩⟩
    have st : ∀ (d : D) ρ, setR (.ref n) (.int 0) d ρ S = .next ρ (S.set n (.lst [d, .int b])) := fun d ρ => setR_ok (j := 0) hs (by simp)
    simp only [d12, q_cons, q_nil, q_sexpr, q_asg, q_par, q_if, q_for, q_ret, q_raise, q_v, q_int, q_bl, q_non, q_str, q_glob, q_bin, q_neg, q_cmp, q_chain, q_and_, q_or_, q_not, q_ife, q_call, q_callB, q_tup, q_lst, q_cell, q_ix, q_slLo, q_slHi, q_slLH, q_rev, q_append, q_what, q_isX, es_nil, es_cons, ea_one, ea_cons, eo_one, eo_cons, el_nil, el_cons, it_seq, it_enum, sd_tup, sd_lst, e0, e1, e2, e3, e4, e5, e6, e7, e8, e9, e10, e11, e12, e13, e14, e15, e16, e17, e18, e19, e20, e21, e22, e23, e24, w0, w1, w2, w3, w4, w5, w6, w7, w8, w9, w10, w11, w12, w13, w14, w15, w16, w17, w18, w19, w20, w21, w22, w23, w24, look_non, look_bl, look_int, look_str, look_tup, look_lst, look_frz, look_ref, rb_ok, rb_exn, rg_ok, rg_exn, rs_next, rs_ret, rs_exn, op_some, om_some, sg_nm, sg_tp, sg_tp2, sa_nil, sa_cons, t_bl, t_non, t_int, t_tup, t_lst, f_next, f_ret, f_exn, tab1, Bool.not_true, Bool.not_false, b_add, b_sub, c_eq, c_ne, c_lt, c_le, c_gt, c_ge, c_is, c_isnot, i_tup, i_lst, eq_int, eq_bl, cb_isI, cb_tuple, cb_list, cb_lenL, cb_lenT, isN_non, isN_int, isN_tup, q_setIx, ix0 S a b hs, decide_eq_true p, ci, hm, hd, st]
  · let c : Int := (b * 39373 + 7) % 2147483647
    have c0 : 0 ≤ c := Int.emod_nonneg _ (by decide)
    have c1 : c < 2147483647 := Int.emod_lt_of_pos _ (by decide)
    have ec : (b * 39373 + 7) % 2147483647 = c := rfl
    have m1 : binop .mul (.int b) (.int 39373) = some (.int (b * 39373)) := b_mulr (by decide)
    have m2 : binop .mod (.int (b * 39373 + 7)) (.int 2147483647) = some (.int c) := b_mod (by decide)
    have m3 : ∀ x : Int, binop .mod (.int x) (.int 2147483629) = some (.int (x % 2147483629)) := fun x => b_mod (by decide)
    have m4 : ∀ x : Int, binop .fdiv (.int x) (.int 32) = some (.int (x / 32)) := fun x => b_fdiv (by decide) (by decide)
    have m5 : binop .mul (.int c) (.int c) = some (.int (c * c)) := b_mulr (by omega)
    have hS' : (S.set n (.lst [.int a, .int c]))[n]? = some (.lst [.int a, .int c]) := by simp [hn]
    have st : ∀ (d : D) ρ, setR (.ref n) (.int 1) d ρ S = .next ρ (S.set n (.lst [.int a, d])) := fun d ρ => setR_ok (j := 1) hs (by simp)
    refine ⟨(c * c) % 2147483629 / 32 % top, S.set n (.lst [.int a, .int c]), ?_, Int.emod_nonneg _ (by omega), Int.emod_lt_of_pos _ h1, ⟨by simp, ⟨a, c, hS', ha, c0, c1⟩, fun m _ hne => by rw [List.getElem?_set_ne (Ne.symm hne)]⟩⟩
    clear_value c
    simp only [d12, q_cons, q_nil, q_sexpr, q_asg, q_par, q_if, q_for, q_ret, q_raise, q_v, q_int, q_bl, q_non, q_str, q_glob, q_bin, q_neg, q_cmp, q_chain, q_and_, q_or_, q_not, q_ife, q_call, q_callB, q_tup, q_lst, q_cell, q_ix, q_slLo, q_slHi, q_slLH, q_rev, q_append, q_what, q_isX, es_nil, es_cons, ea_one, ea_cons, eo_one, eo_cons, el_nil, el_cons, it_seq, it_enum, sd_tup, sd_lst, e0, e1, e2, e3, e4, e5, e6, e7, e8, e9, e10, e11, e12, e13, e14, e15, e16, e17, e18, e19, e20, e21, e22, e23, e24, w0, w1, w2, w3, w4, w5, w6, w7, w8, w9, w10, w11, w12, w13, w14, w15, w16, w17, w18, w19, w20, w21, w22, w23, w24, look_non, look_bl, look_int, look_str, look_tup, look_lst, look_frz, look_ref, rb_ok, rb_exn, rg_ok, rg_exn, rs_next, rs_ret, rs_exn, op_some, om_some, sg_nm, sg_tp, sg_tp2, sa_nil, sa_cons, t_bl, t_non, t_int, t_tup, t_lst, f_next, f_ret, f_exn, tab1, Bool.not_true, Bool.not_false, b_add, b_sub, c_eq, c_ne, c_lt, c_le, c_gt, c_ge, c_is, c_isnot, i_tup, i_lst, eq_int, eq_bl, cb_isI, cb_tuple, cb_list, cb_lenL, cb_lenT, isN_non, isN_int, isN_tup, q_setIx, ix0 S a b hs, ix1 S a b hs, decide_eq_false p, ci, m1, m2, st, ix1 _ a c hS', m5, m3, m4, hm]
/-- one of several things is drawn -/
theorem s_one {n : Nat} {l : List D} (h : Wl n S) (h1 : 0 < l.length) (h2 : l.length ≤ 1000000) : ∃ d S', callF prg wf (k + 2) 13 [.ref n, .lst l] th S = .ok d S' ∧ d ∈ l ∧ Up n S S' := by
  obtain ⟨v, S', e, v0, v1, u⟩ := s_take (wf := wf) (k := k) (th := noThk) (top := (l.length : Int)) h (by omega) (by omega)
  obtain ⟨i, hi⟩ : ∃ i : Nat, v = i := ⟨v.toNat, by omega⟩
  have hi2 : i < l.length := by omega
  refine ⟨l[i], S', ?_, List.getElem_mem .., u⟩
  rw [call_to (d := d13) (ρ := [some (.ref n), some (.lst l)]) (G := GP) rfl rfl rfl rfl]
  have a1 : index (.lst l) (.int v) S' = some l[i] := by
    rw [hi]
    exact index_nat rfl hi2
  simp only [d13, q_cons, q_nil, q_sexpr, q_asg, q_par, q_if, q_for, q_ret, q_raise, q_v, q_int, q_bl, q_non, q_str, q_glob, q_bin, q_neg, q_cmp, q_chain, q_and_, q_or_, q_not, q_ife, q_call, q_callB, q_tup, q_lst, q_cell, q_ix, q_slLo, q_slHi, q_slLH, q_rev, q_append, q_what, q_isX, es_nil, es_cons, ea_one, ea_cons, eo_one, eo_cons, el_nil, el_cons, it_seq, it_enum, sd_tup, sd_lst, e0, e1, e2, e3, e4, e5, e6, e7, e8, e9, e10, e11, e12, e13, e14, e15, e16, e17, e18, e19, e20, e21, e22, e23, e24, w0, w1, w2, w3, w4, w5, w6, w7, w8, w9, w10, w11, w12, w13, w14, w15, w16, w17, w18, w19, w20, w21, w22, w23, w24, look_non, look_bl, look_int, look_str, look_tup, look_lst, look_frz, look_ref, rb_ok, rb_exn, rg_ok, rg_exn, rs_next, rs_ret, rs_exn, op_some, om_some, sg_nm, sg_tp, sg_tp2, sa_nil, sa_cons, t_bl, t_non, t_int, t_tup, t_lst, f_next, f_ret, f_exn, tab1, Bool.not_true, Bool.not_false, b_add, b_sub, c_eq, c_ne, c_lt, c_le, c_gt, c_ge, c_is, c_isnot, i_tup, i_lst, eq_int, eq_bl, cb_isI, cb_tuple, cb_list, cb_lenL, cb_lenT, isN_non, isN_int, isN_tup, e, a1]
def restP : Sms := (.cons (.asg (.nm 3) (.callB .max2 (.cons (.callB .int (.cons (.var 2) .nil)) (.cons (.callB .int (.cons (.bin .sub (.neg (.int 1)) (.var 2)) .nil)) .nil)))) (.cons (.asg (.nm 4) (.bin .mod (.callB .int (.cons (.bin .mul (.bin .add (.bin .add (.bin .add (.bin .mod (.callB .int (.cons (.var 3) .nil)) (.int 2147483629)) (.bin .mul (.bin .mul (.int 7919) (.var 1)) (.var 1))) (.bin .mul (.int 31) (.var 1))) (.int 17)) (.int 48271)) .nil)) (.int 2147483647))) (.cons (.ret (.cell (.cons (.bin .mul (.var 3) (.callB .int (.cons (.and_ (.cons (.cmp .ge (.var 3) (.bin .pow (.int 10) (.int 18))) (.cons (.cmp .lt (.var 1) (.callB .len (.cons (.var 0) .nil))) .nil))) .nil))) (.cons (.var 4) .nil)))) (.nil))))
/-- the numbers that a script's cell stands for -/
theorem s_pool {ns : List Int} {K : Nat} (hK : K ≤ 63) : ∃ a b : Int, callF prg wf (k + 1) 11 [.frz (ns.map .int), .int K] th S = .ok (.ref S.length) (S ++ [.lst [.int a, .int b]]) ∧ 0 ≤ a ∧ 0 ≤ b ∧ b < 2147483647 := by
  have m1 : binop .mul (.int 7919) (.int (K : Int)) = some (.int (7919 * K)) := b_mulr (by omega)
  have m2 : binop .mul (.int (7919 * (K : Int))) (.int (K : Int)) = some (.int (7919 * K * K)) := b_mulr (by omega)
  have m3 : binop .mul (.int 31) (.int (K : Int)) = some (.int (31 * K)) := b_mulr (by omega)
  have m4 : ∀ x : Int, binop .mul (.int x) (.int 48271) = some (.int (x * 48271)) := fun x => b_mulr (by omega)
  have md : ∀ x : Int, binop .mod (.int x) (.int 2147483629) = some (.int (x % 2147483629)) := fun _ => b_mod (by decide)
  have md2 : ∀ x : Int, binop .mod (.int x) (.int 2147483647) = some (.int (x % 2147483647)) := fun _ => b_mod (by decide)
  have pw := b_10_18
  have hl : callB .len [.frz (ns.map .int)] S = .ok (.int ns.length) S := by
    rw [cb_len (l := ns.map .int) rfl, List.length_map]
  have g : ∀ c : Int, ∃ a b : Int, fin (exss GP (subP prg) (tab prg wf k) wf restP k th [some (.frz (ns.map .int)), some (.int (K : Int)), some (.int c), none, none] S) = .ok (.ref S.length) (S ++ [.lst [.int a, .int b]]) ∧ 0 ≤ a ∧ 0 ≤ b ∧ b < 2147483647 := fun c => by
    let big : Int := if -1 - c > c then -1 - c else c
    have b0 : 0 ≤ big := by
      show 0 ≤ if -1 - c > c then -1 - c else c
      split <;> omega
    have eb : callB .max2 [.int c, .int (-1 - c)] S = .ok (.int big) S := rfl
    let mx : Int := (big % 2147483629 + 7919 * K * K + 31 * K + 17) * 48271 % 2147483647
    have x0 : 0 ≤ mx := Int.emod_nonneg _ (by decide)
    have x1 : mx < 2147483647 := Int.emod_lt_of_pos _ (by decide)
    have ex : (big % 2147483629 + 7919 * K * K + 31 * K + 17) * 48271 % 2147483647 = mx := rfl
    have ci : ∀ i : Int, callB .int [.int i] S = .ok (.int i) S := fun _ => rfl
    have cj : ∀ b : Bool, callB .int [.bl b] S = .ok (.int (if b then 1 else 0)) S := fun _ => rfl
    by_cases p : (1000000000000000000 : Int) ≤ big
    · by_cases q : (K : Int) < (ns.length : Int)
      · refine ⟨big, mx, ?_, b0, x0, x1⟩
        have m5 : binop .mul (.int big) (.int 1) = some (.int big) := by
          rw [b_mulr (by decide), Int.mul_one]
        simp only [restP, q_cons, q_nil, q_sexpr, q_asg, q_par, q_if, q_for, q_ret, q_raise, q_v, q_int, q_bl, q_non, q_str, q_glob, q_bin, q_neg, q_cmp, q_chain, q_and_, q_or_, q_not, q_ife, q_call, q_callB, q_tup, q_lst, q_cell, q_ix, q_slLo, q_slHi, q_slLH, q_rev, q_append, q_what, q_isX, es_nil, es_cons, ea_one, ea_cons, eo_one, eo_cons, el_nil, el_cons, it_seq, it_enum, sd_tup, sd_lst, e0, e1, e2, e3, e4, e5, e6, e7, e8, e9, e10, e11, e12, e13, e14, e15, e16, e17, e18, e19, e20, e21, e22, e23, e24, w0, w1, w2, w3, w4, w5, w6, w7, w8, w9, w10, w11, w12, w13, w14, w15, w16, w17, w18, w19, w20, w21, w22, w23, w24, look_non, look_bl, look_int, look_str, look_tup, look_lst, look_frz, look_ref, rb_ok, rb_exn, rg_ok, rg_exn, rs_next, rs_ret, rs_exn, op_some, om_some, sg_nm, sg_tp, sg_tp2, sa_nil, sa_cons, t_bl, t_non, t_int, t_tup, t_lst, f_next, f_ret, f_exn, tab1, Bool.not_true, Bool.not_false, b_add, b_sub, c_eq, c_ne, c_lt, c_le, c_gt, c_ge, c_is, c_isnot, i_tup, i_lst, eq_int, eq_bl, cb_isI, cb_tuple, cb_list, cb_lenL, cb_lenT, isN_non, isN_int, isN_tup, ci, cj, eb, md, m1, m2, m3, m4, md2, ex, pw, decide_eq_true p, hl, decide_eq_true q, if_true, m5]
      · refine ⟨0, mx, ?_, Int.le_refl _, x0, x1⟩
        have m5 : binop .mul (.int big) (.int 0) = some (.int 0) := by
          rw [b_mulr (by decide), Int.mul_zero]
        simp only [restP, q_cons, q_nil, q_sexpr, q_asg, q_par, q_if, q_for, q_ret, q_raise, q_v, q_int, q_bl, q_non, q_str, q_glob, q_bin, q_neg, q_cmp, q_chain, q_and_, q_or_, q_not, q_ife, q_call, q_callB, q_tup, q_lst, q_cell, q_ix, q_slLo, q_slHi, q_slLH, q_rev, q_append, q_what, q_isX, es_nil, es_cons, ea_one, ea_cons, eo_one, eo_cons, el_nil, el_cons, it_seq, it_enum, sd_tup, sd_lst, e0, e1, e2, e3, e4, e5, e6, e7, e8, e9, e10, e11, e12, e13, e14, e15, e16, e17, e18, e19, e20, e21, e22, e23, e24, w0, w1, w2, w3, w4, w5, w6, w7, w8, w9, w10, w11, w12, w13, w14, w15, w16, w17, w18, w19, w20, w21, w22, w23, w24, look_non, look_bl, look_int, look_str, look_tup, look_lst, look_frz, look_ref, rb_ok, rb_exn, rg_ok, rg_exn, rs_next, rs_ret, rs_exn, op_some, om_some, sg_nm, sg_tp, sg_tp2, sa_nil, sa_cons, t_bl, t_non, t_int, t_tup, t_lst, f_next, f_ret, f_exn, tab1, Bool.not_true, Bool.not_false, b_add, b_sub, c_eq, c_ne, c_lt, c_le, c_gt, c_ge, c_is, c_isnot, i_tup, i_lst, eq_int, eq_bl, cb_isI, cb_tuple, cb_list, cb_lenL, cb_lenT, isN_non, isN_int, isN_tup, ci, cj, eb, md, m1, m2, m3, m4, md2, ex, pw, decide_eq_true p, hl, decide_eq_false q, Bool.false_eq_true, if_false, m5]
    · refine ⟨0, mx, ?_, Int.le_refl _, x0, x1⟩
      have m5 : binop .mul (.int big) (.int 0) = some (.int 0) := by
        rw [b_mulr (by decide), Int.mul_zero]
      simp only [restP, q_cons, q_nil, q_sexpr, q_asg, q_par, q_if, q_for, q_ret, q_raise, q_v, q_int, q_bl, q_non, q_str, q_glob, q_bin, q_neg, q_cmp, q_chain, q_and_, q_or_, q_not, q_ife, q_call, q_callB, q_tup, q_lst, q_cell, q_ix, q_slLo, q_slHi, q_slLH, q_rev, q_append, q_what, q_isX, es_nil, es_cons, ea_one, ea_cons, eo_one, eo_cons, el_nil, el_cons, it_seq, it_enum, sd_tup, sd_lst, e0, e1, e2, e3, e4, e5, e6, e7, e8, e9, e10, e11, e12, e13, e14, e15, e16, e17, e18, e19, e20, e21, e22, e23, e24, w0, w1, w2, w3, w4, w5, w6, w7, w8, w9, w10, w11, w12, w13, w14, w15, w16, w17, w18, w19, w20, w21, w22, w23, w24, look_non, look_bl, look_int, look_str, look_tup, look_lst, look_frz, look_ref, rb_ok, rb_exn, rg_ok, rg_exn, rs_next, rs_ret, rs_exn, op_some, om_some, sg_nm, sg_tp, sg_tp2, sa_nil, sa_cons, t_bl, t_non, t_int, t_tup, t_lst, f_next, f_ret, f_exn, tab1, Bool.not_true, Bool.not_false, b_add, b_sub, c_eq, c_ne, c_lt, c_le, c_gt, c_ge, c_is, c_isnot, i_tup, i_lst, eq_int, eq_bl, cb_isI, cb_tuple, cb_list, cb_lenL, cb_lenT, isN_non, isN_int, isN_tup, ci, cj, eb, md, m1, m2, m3, m4, md2, ex, pw, decide_eq_false p, hl, Bool.false_eq_true, if_false, m5]
  rw [call_to (d := d11) (ρ := [some (.frz (ns.map .int)), some (.int (K : Int)), none, none, none]) (G := GP) rfl rfl rfl rfl]
  by_cases p : K < ns.length
  · have c1 : index (.frz (ns.map .int)) (.int K) S = some (.int ns[K]) := by
      rw [index_nat (l := ns.map .int) (j := K) rfl (by rw [List.length_map]; exact p), List.getElem_map]
    have q : (K : Int) < (ns.length : Int) := by omega
    obtain ⟨a, b, h⟩ := g ns[K]
    refine ⟨a, b, ?_, h.2⟩
    rw [← h.1]
    rw [show d11.body = .cons (.asg (.nm 2) (.int 0)) (.cons (.if_ (.cmp .lt (.var 1) (.callB .len (.cons (.var 0) .nil))) (.cons (.asg (.nm 2) (.ix (.var 0) (.var 1))) (.nil)) (.cons (.if_ (.cmp .ne (.var 0) (.lst .nil)) (.cons (.asg (.nm 2) (.ix (.var 0) (.int 0))) (.nil)) (.nil)) (.nil))) restP) from rfl]
    simp only [q_cons, q_nil, q_sexpr, q_asg, q_par, q_if, q_for, q_ret, q_raise, q_v, q_int, q_bl, q_non, q_str, q_glob, q_bin, q_neg, q_cmp, q_chain, q_and_, q_or_, q_not, q_ife, q_call, q_callB, q_tup, q_lst, q_cell, q_ix, q_slLo, q_slHi, q_slLH, q_rev, q_append, q_what, q_isX, es_nil, es_cons, ea_one, ea_cons, eo_one, eo_cons, el_nil, el_cons, it_seq, it_enum, sd_tup, sd_lst, e0, e1, e2, e3, e4, e5, e6, e7, e8, e9, e10, e11, e12, e13, e14, e15, e16, e17, e18, e19, e20, e21, e22, e23, e24, w0, w1, w2, w3, w4, w5, w6, w7, w8, w9, w10, w11, w12, w13, w14, w15, w16, w17, w18, w19, w20, w21, w22, w23, w24, look_non, look_bl, look_int, look_str, look_tup, look_lst, look_frz, look_ref, rb_ok, rb_exn, rg_ok, rg_exn, rs_next, rs_ret, rs_exn, op_some, om_some, sg_nm, sg_tp, sg_tp2, sa_nil, sa_cons, t_bl, t_non, t_int, t_tup, t_lst, f_next, f_ret, f_exn, tab1, Bool.not_true, Bool.not_false, b_add, b_sub, c_eq, c_ne, c_lt, c_le, c_gt, c_ge, c_is, c_isnot, i_tup, i_lst, eq_int, eq_bl, cb_isI, cb_tuple, cb_list, cb_lenL, cb_lenT, isN_non, isN_int, isN_tup, hl, decide_eq_true q, c1]
  · have q : ¬ (K : Int) < (ns.length : Int) := by omega
    cases ns with
    | nil =>
      obtain ⟨a, b, h⟩ := g 0
      refine ⟨a, b, ?_, h.2⟩
      rw [← h.1]
      have fe' : eqD (.frz ([].map D.int)) (.lst []) S = some true := frz_eq [] S
      rw [show d11.body = .cons (.asg (.nm 2) (.int 0)) (.cons (.if_ (.cmp .lt (.var 1) (.callB .len (.cons (.var 0) .nil))) (.cons (.asg (.nm 2) (.ix (.var 0) (.var 1))) (.nil)) (.cons (.if_ (.cmp .ne (.var 0) (.lst .nil)) (.cons (.asg (.nm 2) (.ix (.var 0) (.int 0))) (.nil)) (.nil)) (.nil))) restP) from rfl]
      simp only [q_cons, q_nil, q_sexpr, q_asg, q_par, q_if, q_for, q_ret, q_raise, q_v, q_int, q_bl, q_non, q_str, q_glob, q_bin, q_neg, q_cmp, q_chain, q_and_, q_or_, q_not, q_ife, q_call, q_callB, q_tup, q_lst, q_cell, q_ix, q_slLo, q_slHi, q_slLH, q_rev, q_append, q_what, q_isX, es_nil, es_cons, ea_one, ea_cons, eo_one, eo_cons, el_nil, el_cons, it_seq, it_enum, sd_tup, sd_lst, e0, e1, e2, e3, e4, e5, e6, e7, e8, e9, e10, e11, e12, e13, e14, e15, e16, e17, e18, e19, e20, e21, e22, e23, e24, w0, w1, w2, w3, w4, w5, w6, w7, w8, w9, w10, w11, w12, w13, w14, w15, w16, w17, w18, w19, w20, w21, w22, w23, w24, look_non, look_bl, look_int, look_str, look_tup, look_lst, look_frz, look_ref, rb_ok, rb_exn, rg_ok, rg_exn, rs_next, rs_ret, rs_exn, op_some, om_some, sg_nm, sg_tp, sg_tp2, sa_nil, sa_cons, t_bl, t_non, t_int, t_tup, t_lst, f_next, f_ret, f_exn, tab1, Bool.not_true, Bool.not_false, b_add, b_sub, c_eq, c_ne, c_lt, c_le, c_gt, c_ge, c_is, c_isnot, i_tup, i_lst, eq_int, eq_bl, cb_isI, cb_tuple, cb_list, cb_lenL, cb_lenT, isN_non, isN_int, isN_tup, hl, decide_eq_false q, fe']
    | cons x ns =>
      obtain ⟨a, b, h⟩ := g x
      refine ⟨a, b, ?_, h.2⟩
      rw [← h.1]
      have fe' : eqD (.frz ((x :: ns).map D.int)) (.lst []) S = some false := frz_eq (x :: ns) S
      have c1 : index (.frz ((x :: ns).map .int)) (.int 0) S = some (.int x) := index_nat (l := (x :: ns).map .int) (j := 0) rfl (by simp)
      rw [show d11.body = .cons (.asg (.nm 2) (.int 0)) (.cons (.if_ (.cmp .lt (.var 1) (.callB .len (.cons (.var 0) .nil))) (.cons (.asg (.nm 2) (.ix (.var 0) (.var 1))) (.nil)) (.cons (.if_ (.cmp .ne (.var 0) (.lst .nil)) (.cons (.asg (.nm 2) (.ix (.var 0) (.int 0))) (.nil)) (.nil)) (.nil))) restP) from rfl]
      simp only [q_cons, q_nil, q_sexpr, q_asg, q_par, q_if, q_for, q_ret, q_raise, q_v, q_int, q_bl, q_non, q_str, q_glob, q_bin, q_neg, q_cmp, q_chain, q_and_, q_or_, q_not, q_ife, q_call, q_callB, q_tup, q_lst, q_cell, q_ix, q_slLo, q_slHi, q_slLH, q_rev, q_append, q_what, q_isX, es_nil, es_cons, ea_one, ea_cons, eo_one, eo_cons, el_nil, el_cons, it_seq, it_enum, sd_tup, sd_lst, e0, e1, e2, e3, e4, e5, e6, e7, e8, e9, e10, e11, e12, e13, e14, e15, e16, e17, e18, e19, e20, e21, e22, e23, e24, w0, w1, w2, w3, w4, w5, w6, w7, w8, w9, w10, w11, w12, w13, w14, w15, w16, w17, w18, w19, w20, w21, w22, w23, w24, look_non, look_bl, look_int, look_str, look_tup, look_lst, look_frz, look_ref, rb_ok, rb_exn, rg_ok, rg_exn, rs_next, rs_ret, rs_exn, op_some, om_some, sg_nm, sg_tp, sg_tp2, sa_nil, sa_cons, t_bl, t_non, t_int, t_tup, t_lst, f_next, f_ret, f_exn, tab1, Bool.not_true, Bool.not_false, b_add, b_sub, c_eq, c_ne, c_lt, c_le, c_gt, c_ge, c_is, c_isnot, i_tup, i_lst, eq_int, eq_bl, cb_isI, cb_tuple, cb_list, cb_lenL, cb_lenT, isN_non, isN_int, isN_tup, hl, decide_eq_false q, fe', c1]
end
end BhK00

set_option Elab.async false
set_option linter.all false
set_option maxRecDepth 100000
set_option maxHeartbeats 1000000
/-! Bp: what the program's looks at values tell, as functions of plain data. -/
namespace Bh
open PySem
def isNum : D → Bool
  | .int _ => true
  | _ => false
def numFrom (lo hi : Int) : D → Bool
  | .int i => decide (lo ≤ i) && decide (i ≤ hi)
  | _ => false
def tupOf (n : Int) : D → Bool
  | .tup l => (l.length : Int) == n
  | _ => false
def firstF : List Bool → Nat → D
  | [], _ => .non
  | b :: l, i => if b then firstF l (i + 1) else .int i
def rising (p : Int) : Int → List D → Bool
  | _, [] => true
  | least, .int i :: l => decide (least ≤ i) && decide (i ≤ p) && rising p (i + 1) l
  | _, _ => false
def intOf : D → Int
  | .int i => i
  | _ => 0
def risingD (p : Int) : D → Bool
  | .tup l => rising (p - 1) 0 l
  | _ => false
theorem rising_ints {p : Int} : ∀ {l : List D} {least : Int}, rising p least l = true → l.all flatD = true
  | [], _, _ => rfl
  | d :: l, least, h => by
    cases d with
    | int i =>
      simp only [rising, Bool.and_eq_true] at h
      simp [flatD, rising_ints h.2]
    | _ => simp [rising] at h
def hasD (part : Int) : D → Bool
  | .tup l => l.any fun y => eqF y (.int part)
  | _ => false
def formed (p part : Int) (row : D) : Bool := risingD p row && hasD part row
def shaped : D → Bool
  | .tup [.tup s, l] => decide (1 ≤ s.length) && decide (s.length ≤ 6) && tupOf s.length l
  | _ => false
def flags (n : Int) : List D → Nat → List Bool
  | [], _ => []
  | d :: l, i => formed n i d :: flags n l (i + 1)
def pairF (n : Int) : D → D
  | .tup [.int i, row] => .bl (formed n i row)
  | _ => .non
theorem pairF_map {n : Int} : ∀ (l : List D) (i : Nat), (enumD l i).map (pairF n) = (flags n l i).map .bl
  | [], _ => rfl
  | d :: l, i => by simp [enumD, flags, pairF, pairF_map l (i + 1)]
theorem enumD_mem {d : D} : ∀ {l : List D} {i : Nat}, d ∈ enumD l i → ∃ (j : Nat) (x : D), x ∈ l ∧ d = .tup [.int j, x]
  | [], _, h => by cases h
  | y :: l, i, h => by
    rcases List.mem_cons.mp h with q | q
    · exact ⟨i, y, List.mem_cons_self .., q⟩
    · obtain ⟨j, x, h1, h2⟩ := enumD_mem q
      exact ⟨j, x, List.mem_cons_of_mem _ h1, h2⟩
def ftOf (a b : D) : D := match a with
  | .non => (match b with
    | .non => .non
    | f => .tup [.int 1, f])
  | f => .tup [.int 0, f]
theorem ft_non : ftOf .non .non = .non := (rfl)
theorem ft_one (j : Int) : ftOf .non (.int j) = .tup [.int 1, .int j] := (rfl)
theorem ft_two (j : Int) (b : D) : ftOf (.int j) b = .tup [.int 0, .int j] := (rfl)
/-- what is wrong with a book -/
def bookFault (t : D) : D := if shaped t then (match t with
  | .tup [.tup s, .tup l] => ftOf (firstF (s.map (numFrom 1 60)) 0) (firstF (flags s.length l 0) 0)
  | _ => .non) else .int (-1)
theorem bookFault_eq {s l : List D} (h : shaped (.tup [.tup s, .tup l]) = true) : bookFault (.tup [.tup s, .tup l]) = ftOf (firstF (s.map (numFrom 1 60)) 0) (firstF (flags s.length l 0) 0) := by
  unfold bookFault
  rw [if_pos h]
theorem firstF_or : ∀ (bs : List Bool) (i : Nat), firstF bs i = .non ∨ ∃ j : Nat, firstF bs i = .int j
  | [], _ => .inl rfl
  | b :: bs, i => by
    cases b with
    | true => exact firstF_or bs (i + 1)
    | false => exact .inr ⟨i, rfl⟩
theorem bookFault_PD (t : D) : PD (bookFault t) := by
  unfold bookFault
  split
  · split
    · rename_i s l _
      rcases firstF_or (s.map (numFrom 1 60)) 0 with z | ⟨j, z⟩
      · rw [z]
        rcases firstF_or (flags s.length l 0) 0 with y | ⟨j, y⟩
        · rw [y, ft_non]; exact .non
        · rw [y, ft_one]; exact .tup _ (by simp; exact ⟨.int _, .int _⟩)
      · rw [z, ft_two]; exact .tup _ (by simp; exact ⟨.int _, .int _⟩)
    · exact .non
  · exact .int _
def isN : D → Bool
  | .non => true
  | _ => false
/-- the links of a plain book of n parts -/
def plainD (n : Nat) : D := .tup ((rangeD 0 n).map fun d => .tup [d])
theorem plainD_PD (n : Nat) : PD (plainD n) := .tup _ fun d h => by
  obtain ⟨x, h1, rfl⟩ := List.mem_map.mp h
  obtain ⟨i, rfl, _⟩ := rangeD_mem h1
  exact .tup _ fun d h => by
    simp at h
    rw [h]
    exact .int _
/-! ### right books -/
def dRow (r : List Int) : D := .tup (r.map .int)
def dLinks (l : List (List Int)) : D := .tup (l.map dRow)
def dBook (s : List Int) (l : List (List Int)) : D := .tup [dRow s, dLinks l]
def RowOk (n i : Nat) (r : List Int) : Prop := r.Pairwise (· < ·) ∧ (∀ j ∈ r, 0 ≤ j ∧ j < n) ∧ (i : Int) ∈ r
structure GoodL (n : Nat) (l : List (List Int)) : Prop where
  len : l.length = n
  row : ∀ i r, l[i]? = some r → RowOk n i r
structure GoodB (s : List Int) (l : List (List Int)) : Prop where
  one : 1 ≤ s.length
  six : s.length ≤ 6
  rng : ∀ x ∈ s, 1 ≤ x ∧ x ≤ 60
  lk : GoodL s.length l
theorem rising_of {p : Int} : ∀ {r : List Int} {least : Int}, r.Pairwise (· < ·) → (∀ j ∈ r, least ≤ j ∧ j ≤ p) → rising p least (r.map .int) = true
  | [], _, _, _ => rfl
  | a :: r, least, h, hb => by
    rw [List.pairwise_cons] at h
    have ha := hb a (List.mem_cons_self ..)
    have ih := rising_of (p := p) (r := r) (least := a + 1) h.2 fun j hj => by
      have h1 := h.1 j hj
      have h2 := hb j (List.mem_cons_of_mem _ hj)
      omega
    simp only [List.map_cons, rising, ih, Bool.and_true, Bool.and_eq_true, decide_eq_true_eq]
    exact ha
theorem any_int {i : Int} {r : List Int} (h : i ∈ r) : (r.map D.int).any (fun y => eqF y (.int i)) = true := by
  rw [List.any_eq_true]
  exact ⟨.int i, List.mem_map.mpr ⟨i, h, rfl⟩, by simp [eqF]⟩
theorem row_formed {n i : Nat} {r : List Int} (h : RowOk n i r) : formed n i (dRow r) = true := by
  obtain ⟨h1, h2, h3⟩ := h
  have e : rising ((n : Int) - 1) 0 (r.map .int) = true := rising_of h1 fun j hj => by
    have := h2 j hj
    omega
  simp only [formed, dRow, risingD, e, hasD, any_int h3, Bool.and_self]
theorem firstF_true : ∀ {bs : List Bool} {i : Nat}, (∀ b ∈ bs, b = true) → firstF bs i = .non
  | [], _, _ => rfl
  | b :: bs, i, h => by
    have hb := h b (List.mem_cons_self ..)
    simp only [firstF, hb, if_true]
    exact firstF_true fun b hb => h b (List.mem_cons_of_mem _ hb)
theorem flags_true {n : Nat} : ∀ {l : List (List Int)} {k : Nat}, (∀ i r, l[i]? = some r → RowOk n (k + i) r) → ∀ b ∈ flags n (l.map dRow) k, b = true
  | [], _, _, b, hb => by cases hb
  | r :: l, k, h, b, hb => by
    rcases List.mem_cons.mp hb with q | q
    · rw [q]
      exact row_formed (h 0 r rfl)
    · refine flags_true (k := k + 1) (fun i r' hr => ?_) b q
      have := h (i + 1) r' hr
      rwa [show k + (i + 1) = k + 1 + i by omega] at this
theorem good_fault {s : List Int} {l : List (List Int)} (h : GoodB s l) : bookFault (dBook s l) = .non := by
  have e1 : shaped (dBook s l) = true := by
    have h1 := h.one
    have h2 := h.six
    have h3 := h.lk.len
    simp [shaped, dBook, dRow, dLinks, tupOf, h1, h2, h3]
  have e2 : firstF ((s.map D.int).map (numFrom 1 60)) 0 = .non := firstF_true fun b hb => by
    obtain ⟨d, h1, rfl⟩ := List.mem_map.mp hb
    obtain ⟨x, h2, rfl⟩ := List.mem_map.mp h1
    have := h.rng x h2
    simp [numFrom, this]
  have e3 : firstF (flags (s.map D.int).length (l.map dRow) 0) 0 = .non := firstF_true (flags_true fun i r hr => by
    rw [List.length_map, Nat.zero_add]
    exact h.lk.row i r hr)
  have e4 : dBook s l = .tup [.tup (s.map .int), .tup (l.map dRow)] := rfl
  rw [e4] at *
  rw [bookFault_eq e1, e2, e3, ft_non]
theorem rangeD_nat : ∀ (n k : Nat), rangeD k n = (List.range' k n).map fun (j : Nat) => D.int j
  | 0, _ => rfl
  | n + 1, k => by
    have := rangeD_nat n (k + 1)
    simp only [rangeD, List.range'_succ, List.map_cons]
    congr 1
theorem rangeD_zero (n : Nat) : rangeD 0 n = ((List.range n).map fun (j : Nat) => (j : Int)).map D.int := by
  have := rangeD_nat n 0
  rw [List.range_eq_range', List.map_map]
  exact this
/-- a row of links that some numbers up to n are in -/
def rowOf (n : Nat) (p : Int → Bool) : List Int := ((List.range n).map fun (j : Nat) => (j : Int)).filter p
theorem range_pw (n : Nat) : ((List.range n).map fun (j : Nat) => (j : Int)).Pairwise (· < ·) := by
  rw [List.pairwise_map]
  exact (List.pairwise_lt_range (n := n)).imp fun h => by omega
theorem rowOf_ok {n i : Nat} {p : Int → Bool} (hi : i < n) (hp : p i = true) : RowOk n i (rowOf n p) := by
  refine ⟨(range_pw n).filter _, fun j hj => ?_, ?_⟩
  · obtain ⟨h1, _⟩ := List.mem_filter.mp hj
    obtain ⟨m, h2, rfl⟩ := List.mem_map.mp h1
    have := List.mem_range.mp h2
    omega
  · exact List.mem_filter.mpr ⟨List.mem_map.mpr ⟨i, List.mem_range.mpr hi, rfl⟩, hp⟩
theorem plain_eq (n : Nat) : plainD n = dLinks ((List.range n).map fun (j : Nat) => [(j : Int)]) := by
  unfold plainD dLinks
  rw [rangeD_zero, List.map_map, List.map_map, List.map_map]
  rfl
theorem plain_good (n : Nat) : GoodL n ((List.range n).map fun (j : Nat) => [(j : Int)]) := by
  refine ⟨by simp, fun i r h => ?_⟩
  rw [List.getElem?_map] at h
  by_cases q : i < n
  · rw [List.getElem?_range q] at h
    simp only [Option.map_some, Option.some.injEq] at h
    subst h
    refine ⟨by simp, fun j hj => ?_, by simp⟩
    simp at hj
    omega
  · rw [List.getElem?_eq_none (by simp; omega)] at h
    cases h
theorem row_lv {n : Nat} {r : List Int} (h1 : r.length ≤ 10) (h2 : ∀ x ∈ r, -(2 ^ 127) < x ∧ x < 2 ^ 127) : Lv (n + 1) (dRow r) := .tup _ _ (by simpa using h1) fun d hd => by
  obtain ⟨x, h, rfl⟩ := List.mem_map.mp hd
  exact .int _ _ (h2 x h)
theorem pw_len : ∀ {r : List Int} {n lo : Int}, r.Pairwise (· < ·) → (∀ j ∈ r, lo ≤ j ∧ j < n) → lo ≤ n → (r.length : Int) ≤ n - lo
  | [], n, lo, _, _, h => by simp; omega
  | a :: r, n, lo, h, hb, hl => by
    rw [List.pairwise_cons] at h
    have ha := hb a (List.mem_cons_self ..)
    have := pw_len (r := r) (n := n) (lo := a + 1) h.2 (fun j hj => by
      have h1 := h.1 j hj
      have h2 := hb j (List.mem_cons_of_mem _ hj)
      omega) (by omega)
    simp only [List.length_cons]
    omega
theorem RowOk.len {n i : Nat} {r : List Int} (h : RowOk n i r) : r.length ≤ n := by
  have := pw_len (n := n) (lo := 0) h.1 h.2.1 (by omega)
  omega
theorem links_lv {n : Nat} {l : List (List Int)} (h : GoodL n l) (hn : n ≤ 10) : Lv 2 (dLinks l) := .tup _ _ (by rw [List.length_map, h.len]; exact hn) fun d hd => by
  obtain ⟨r, hr, rfl⟩ := List.mem_map.mp hd
  obtain ⟨i, hi, e⟩ := List.mem_iff_getElem.mp hr
  have ok := h.row i r (by rw [List.getElem?_eq_getElem hi, e])
  have := ok.len
  exact row_lv (by omega) fun x hx => by
    have := ok.2.1 x hx
    omega
theorem steps_lv {s : List Int} (h1 : s.length ≤ 10) (h2 : ∀ x ∈ s, 1 ≤ x ∧ x ≤ 60) : Lv 1 (dRow s) := row_lv h1 fun x hx => by
  have := h2 x hx
  omega
theorem book_lv {s : List Int} {l : List (List Int)} (h : GoodB s l) : Lv 3 (dBook s l) := .tup _ _ (by simp) fun d hd => by
  have h6 := h.six
  simp only [List.mem_cons, List.not_mem_nil, or_false] at hd
  rcases hd with rfl | rfl
  · exact (steps_lv (by omega) h.rng).up
  · exact links_lv h.lk (by omega)
/-! ### the first that is wrong, by a loop over places -/
def toOpt : D → Option D
  | .non => none
  | d => some d
theorem find_firstF : ∀ (bs : List Bool) (k : Nat) (f : D → Bool), (∀ j b, bs[j]? = some b → f (.int ((k + j : Nat) : Int)) = b) → (rangeD (k : Int) bs.length).find? (fun d => !f d) = toOpt (firstF bs k)
  | [], k, f, _ => rfl
  | b :: bs, k, f, h => by
    have h0 : f (.int (k : Int)) = b := h 0 b rfl
    have ih := find_firstF bs (k + 1) f fun j c hj => by
      have := h (j + 1) c hj
      rwa [show k + (j + 1) = k + 1 + j by omega] at this
    simp only [List.length_cons, rangeD, List.find?_cons, h0, firstF]
    cases b with
    | true => exact ih
    | false => rfl
def Adj : List Int → Prop
  | [] => True
  | [_] => True
  | a :: b :: r => a < b ∧ Adj (b :: r)
theorem adj_get : ∀ (r : List Int), Adj r ↔ ∀ i, i + 1 < r.length → r.getD i 0 < r.getD (i + 1) 0
  | [] => by simp [Adj]
  | [a] => by simp [Adj]
  | a :: b :: r => by
    have ih := adj_get (b :: r)
    constructor
    · intro h i hi
      cases i with
      | zero => simpa using h.1
      | succ i =>
        have := ih.mp h.2 i (by simpa using hi)
        simpa using this
    · intro h
      refine ⟨by simpa using h 0 (by simp), ih.mpr fun i hi => ?_⟩
      have := h (i + 1) (by simpa using hi)
      simpa using this
theorem rising_adj {p : Int} : ∀ (r : List Int) (least : Int), (∀ j ∈ r, j ≤ p) → (rising p least (r.map .int) = true ↔ (∀ j, r.head? = some j → least ≤ j) ∧ Adj r)
  | [], least, _ => by simp [rising, Adj]
  | [a], least, h => by
    have := h a (by simp)
    simp [rising, Adj, this]
  | a :: b :: r, least, h => by
    have ih := rising_adj (b :: r) (a + 1) fun j hj => h j (List.mem_cons_of_mem _ hj)
    have ha := h a (by simp)
    have e : rising p least ((a :: b :: r).map .int) = (decide (least ≤ a) && decide (a ≤ p) && rising p (a + 1) ((b :: r).map .int)) := rfl
    rw [e, Bool.and_eq_true, ih]
    simp only [List.head?_cons, Option.some.injEq, forall_eq', Adj, ha, decide_true, Bool.and_true, decide_eq_true_eq]
    constructor
    · rintro ⟨h1, h2, h3⟩
      exact ⟨h1, by omega, h3⟩
    · rintro ⟨h1, h2, h3⟩
      exact ⟨h1, by omega, h3⟩
/-- a place behind which the row does not rise -/
def fallD (r : List Int) : D → Bool
  | .int a => decide (r.getD a.toNat 0 ≤ r.getD (a.toNat - 1) 0)
  | _ => false
theorem fall_nil {n : Nat} {r : List Int} (h : ∀ j ∈ r, 0 ≤ j ∧ j ≤ (n : Int) - 1) : ((rangeD (1 : Nat) (r.length - 1)).filter (fallD r)).isEmpty = rising ((n : Int) - 1) 0 (r.map .int) := by
  have e : (rising ((n : Int) - 1) 0 (r.map .int) = true) ↔ Adj r := by
    rw [rising_adj r 0 fun j hj => (h j hj).2]
    refine ⟨fun h => h.2, fun g => ⟨fun j hj => ?_, g⟩⟩
    have : j ∈ r := by
      cases r with
      | nil => cases hj
      | cons a r =>
        simp at hj
        simp [hj]
    exact (h j this).1
  have e2 : (((rangeD (1 : Nat) (r.length - 1)).filter (fallD r)).isEmpty = true) ↔ Adj r := by
    rw [List.isEmpty_iff, List.filter_eq_nil_iff, adj_get]
    constructor
    · intro g i hi
      have hm : D.int ((i + 1 : Nat) : Int) ∈ rangeD ((1 : Nat) : Int) (r.length - 1) := by
        rw [rangeD_nat, List.mem_map]
        exact ⟨i + 1, by rw [List.mem_range']; exact ⟨i, by omega, by omega⟩, rfl⟩
      have := g _ hm
      simp only [fallD, Int.toNat_natCast, Nat.add_sub_cancel, decide_eq_true_eq] at this
      omega
    · intro g d hd
      obtain ⟨i, rfl, h1, h2⟩ := rangeD_mem hd
      have hi := g (i.toNat - 1) (by omega)
      simp only [fallD, decide_eq_true_eq]
      rw [show i.toNat - 1 + 1 = i.toNat by omega] at hi
      omega
  rw [Bool.eq_iff_iff, e, e2]
theorem ints_of {lo hi : Int} : ∀ {l : List D}, (∀ d ∈ l, numFrom lo hi d = true) → ∃ r : List Int, l = r.map .int ∧ ∀ j ∈ r, lo ≤ j ∧ j ≤ hi
  | [], _ => ⟨[], rfl, by simp⟩
  | d :: l, h => by
    obtain ⟨r, e, hr⟩ := ints_of fun d hd => h d (List.mem_cons_of_mem _ hd)
    have hd := h d (List.mem_cons_self ..)
    cases d with
    | int i =>
      simp only [numFrom, Bool.and_eq_true, decide_eq_true_eq] at hd
      exact ⟨i :: r, by rw [e]; rfl, fun j hj => by
        rcases List.mem_cons.mp hj with q | q
        · rw [q]; exact hd
        · exact hr j q⟩
    | _ => cases hd
theorem inD_ints (i : Int) (r : List Int) : inD (.int i) (r.map .int) = some ((r.map D.int).any fun y => eqF y (.int i)) := by
  have e : (r.map D.int).all flatD = true := by
    rw [List.all_eq_true]
    intro d hd
    obtain ⟨j, _, rfl⟩ := List.mem_map.mp hd
    rfl
  unfold inD
  rw [e]
  rfl
theorem rising_all {p : Int} : ∀ {l : List D} {least : Int}, rising p least l = true → ∀ d ∈ l, numFrom least p d = true
  | [], _, _, d, hd => by cases hd
  | x :: l, least, h, d, hd => by
    cases x with
    | int i =>
      simp only [rising, Bool.and_eq_true, decide_eq_true_eq] at h
      rcases List.mem_cons.mp hd with q | q
      · rw [q]
        simp [numFrom, h.1]
      · have := rising_all h.2 d q
        cases d with
        | int j =>
          simp only [numFrom, Bool.and_eq_true, decide_eq_true_eq] at this ⊢
          omega
        | _ => cases this
    | _ => simp [rising] at h
end Bh

set_option Elab.async false
set_option linter.all false
set_option maxRecDepth 100000
set_option maxHeartbeats 1000000
namespace BhK00
open Bh
variable {wf k : Nat} {th : Thk} {S : Sto}
noncomputable abbrev cf (wf k f : Nat) (ds : List D) (S : Sto) : R D := callF prg wf k f ds noThk S
theorem s_num {d : D} (h : PD d) : callF prg wf (k + 1) 0 [d] th S = .ok (.bl (isNum d)) S := by
  rw [call_eq (d := d0) rfl rfl]
  cases h <;> simp [d0, exss, exs, ev, evs, evAnd, startE, callB, isTy, truthy, isNum, opt]
theorem s_from {d : D} (h : PD d) (lo hi : Int) : callF prg wf (k + 2) 1 [d, .int lo, .int hi] th S = .ok (.bl (numFrom lo hi d)) S := by
  rw [call_eq (d := d1) rfl rfl]
  simp only [d1, exss, exs, ev, evs, evAnd, startE, tab1]
  have hn : d ≠ .lam ∧ (∀ c w, d ≠ .exc c w) := by cases h <;> simp
  cases h <;> simp [s_num, PD.non, PD.bl, PD.int, PD.str, truthy, isNum, cmpop, numFrom, opt]
  · rename_i i
    by_cases q : lo ≤ i <;> simp [q]
  · rename_i l hl
    simp [s_num (.tup l hl), isNum, truthy]
theorem s_tupof {d : D} (h : PD d) (n : Int) : callF prg wf (k + 1) 2 [d, .int n] th S = .ok (.bl (tupOf n d)) S := by
  rw [call_eq (d := d2) rfl rfl]
  simp only [d2, exss, exs, ev, evs, evAnd, startE, tab1]
  cases h <;> simp [truthy, callB, isTy, items, cmpop, eqD, tupOf, opt]
theorem loop_first {n : Nat} {C : Nat → Fns} : ∀ (bs : List Bool) (i : Nat) (x y z : Option D) (S : Sto),
    (forL (.tp [1, 2]) (fun ρ' S' => exss (prg.globs.map (·.2)) (subP prg) C wf (.cons (.if_ (.not (.var 2)) (.cons (.ret (.var 1)) .nil) .nil) .nil) n th ρ' S') (enumD (bs.map .bl) i) [x, y, z] S).bind (fun _ S => .ret .non S) = .ret (firstF bs i) S
  | [], i, x, y, z, S => by simp [enumD, forL, firstF]
  | b :: bs, i, x, y, z, S => by
    have ih := loop_first (n := n) (C := C) bs (i + 1)
    simp only [List.map_cons, enumD, forL, setTg, setAll]
    cases b
    · simp [exss, exs, ev, truthy, firstF, opt]
    · simp [exss, exs, ev, truthy, firstF, opt]
      exact ih _ _ _ _
theorem s_first (bs : List Bool) : callF prg wf (k + 1) 4 [.lst (bs.map .bl)] th S = .ok (firstF bs 0) S := by
  rw [call_eq (d := d4) rfl rfl]
  exact congrArg fin (loop_first (wf := wf) (th := th) (n := k) (C := tab prg wf k) bs 0 (some (.lst (bs.map .bl))) none none S)
abbrev bodyR : Sms := .cons (.if_ (.not (.call 1 (.cons (.var 3) (.cons (.var 2) (.cons (.bin .sub (.var 0) (.int 1)) .nil))))) (.cons (.ret (.bl false)) .nil) .nil) (.cons (.asg (.nm 2) (.bin .add (.var 3) (.int 1))) .nil)
theorem step_rising {n : Nat} {p least : Int} {t0 : Option D} {d : D} (hd : PD d) (S : Sto) : exss GP (subP prg) (tab prg wf (n + 2)) wf bodyR (n + 2) th [some (.int p), t0, some (.int least), some d] S = if numFrom least (p - 1) d then .next [some (.int p), t0, some (.int (intOf d + 1)), some d] S else .ret (.bl false) S := by
  have e := s_from (wf := wf) (k := n) (th := noThk) (S := S) hd least (p - 1)
  cases hd with
  | int i =>
    cases q : numFrom least (p - 1) (.int i) with
    | true =>
      rw [q] at e
      simp [bodyR, exss, exs, ev, evs, tab1, e, truthy, binop, opt, setTg, intOf]
    | false =>
      rw [q] at e
      simp [bodyR, exss, exs, ev, evs, tab1, e, truthy, binop, opt, setTg]
  | _ =>
    simp only [numFrom] at e
    simp [bodyR, exss, exs, ev, evs, tab1, e, truthy, binop, opt, setTg, numFrom]
theorem loop_rising {B : Env → Sto → RS} {p : Int} {t0 : Option D} (hB : ∀ (least : Int) (d : D) (S : Sto), PD d → B [some (.int p), t0, some (.int least), some d] S = if numFrom least (p - 1) d then .next [some (.int p), t0, some (.int (intOf d + 1)), some d] S else .ret (.bl false) S) :
    ∀ (l : List D) (least : Int) (y : Option D) (S : Sto), (∀ d ∈ l, PD d) → (forL (.nm 3) B l [some (.int p), t0, some (.int least), y] S).bind (fun _ S => .ret (.bl true) S) = .ret (.bl (rising (p - 1) least l)) S
  | [], least, y, S, _ => by simp [forL, rising]
  | d :: l, least, y, S, h => by
    have e := hB least d S (h d (List.mem_cons_self ..))
    have ih := loop_rising hB l
    have hs : setTg (.nm 3) d [some (.int p), t0, some (.int least), y] = some [some (.int p), t0, some (.int least), some d] := rfl
    simp only [forL, hs, e]
    cases q : numFrom least (p - 1) d with
    | true =>
      cases d with
      | int i =>
        simp only [numFrom, Bool.and_eq_true] at q
        simp only [rising, q.1, q.2, if_true, RS.bind_next, intOf, Bool.true_and]
        exact ih _ _ _ fun d hd => h d (List.mem_cons_of_mem _ hd)
      | _ => cases q
    | false =>
      have r : rising (p - 1) least (d :: l) = false := by
        cases d with
        | int i =>
          simp only [numFrom, Bool.and_eq_false_iff] at q
          rcases q with q | q <;> simp [rising, q]
        | _ => rfl
      rw [r]
      rfl
theorem s_rising {p : Int} {d : D} (hd : PD d) : callF prg wf (k + 3) 3 [.int p, d] th S = .ok (.bl (risingD p d)) S := by
  rw [call_eq (d := d3) rfl rfl]
  cases hd with
  | tup l h =>
    exact congrArg fin (loop_rising (p := p) (t0 := some (.tup l)) (fun least d S hd => step_rising (wf := wf) (th := th) (n := k) hd S) l 0 none S h)
  | _ => simp [d3, exss, exs, ev, evs, startE, callB, isTy, truthy, opt, risingD]
theorem s_formed {p part : Int} {row : D} (hr : PD row) : callF prg wf (k + 4) 10 [.int p, .int part, row] th S = .ok (.bl (formed p part row)) S := by
  rw [call_eq (d := d10) rfl rfl]
  have e := s_rising (wf := wf) (k := k) (th := noThk) (S := S) (p := p) hr
  simp only [d10, exss, exs, ev, evs, evAnd, startE, tab1]
  cases hr with
  | tup l h =>
    cases q : risingD p (.tup l) with
    | true =>
      rw [q] at e
      have fl : l.all flatD = true := rising_ints q
      have ei : inD (.int part) l = some (l.any fun y => eqF y (.int part)) := by
        unfold inD
        rw [fl]
        rfl
      simp [e, truthy, cmpop, items, ei, formed, q, hasD, opt]
    | false =>
      rw [q] at e
      simp [e, truthy, formed, q]
  | _ =>
    simp only [risingD] at e
    simp [e, truthy, formed, risingD]
theorem s_shaped {t : D} (ht : PD t) : callF prg wf (k + 2) 9 [t] th S = .ok (.bl (shaped t)) S := by
  rw [call_eq (d := d9) rfl rfl]
  have e := s_tupof (wf := wf) (k := k) (th := noThk) (S := S) ht 2
  simp only [d9, exss, exs, ev, evs, evAnd, evOr, startE, tab1]
  cases q : tupOf 2 t with
  | false =>
    rw [q] at e
    have z : shaped t = false := by
      unfold shaped
      split
      · simp [tupOf] at q
      · rfl
    cases ht <;> simp [e, truthy, z, opt]
  | true =>
    rw [q] at e
    cases ht with
    | tup l hl =>
      simp only [tupOf, beq_iff_eq] at q
      match l, q, hl with
      | [a, b], _, hl =>
        have hb := hl b (by simp)
        have ha := hl a (by simp)
        cases ha with
        | tup s hs =>
          have e2 := fun n => s_tupof (wf := wf) (k := k) (th := noThk) (S := S) hb n
          have e0 : index (.tup [.tup s, b]) (.int 0) S = some (.tup s) := rfl
          have e1 : index (.tup [.tup s, b]) (.int 1) S = some b := rfl
          have g0 : GP[0]? = some 6 := rfl
          by_cases h1 : 1 ≤ s.length
          · by_cases h2 : s.length ≤ 6
            · have i1 : (1 : Int) ≤ (s.length : Int) := by omega
              have i2 : (s.length : Int) ≤ 6 := by omega
              simp [e, truthy, opt, callB, isTy, e0, e1, items, setTg, cmpop, e2, shaped, g0, i1, i2, h1, h2]
            · have i1 : (1 : Int) ≤ (s.length : Int) := by omega
              have i2 : ¬ (s.length : Int) ≤ 6 := by omega
              simp [e, truthy, opt, callB, isTy, e0, e1, items, setTg, cmpop, e2, shaped, g0, i1, i2, h1, h2]
          · have i1 : ¬ (1 : Int) ≤ (s.length : Int) := by omega
            simp [e, truthy, opt, callB, isTy, e0, e1, items, setTg, cmpop, e2, shaped, g0, i1, h1]
        | _ => simp [e, truthy, opt, callB, isTy, index, items, L2.atI, L2.ixN, shaped]
    | _ => cases q
theorem s_fault {t : D} (ht : PD t) : callF prg wf (k + 5) 8 [t] th S = .ok (bookFault t) S := by
  rw [call_eq (d := d8) rfl rfl]
  have e := s_shaped (wf := wf) (k := k + 2) (th := noThk) (S := S) ht
  cases q : shaped t with
  | false =>
    rw [q] at e
    have v0 : ∀ a b c d f g, ev GP (subP prg) (tab prg wf (k + 4)) (.var 0) (k + 4) th [some t, a, b, c, d, f, g] S = .ok t S := fun a b c d f g => by
      rw [q_var]
      cases ht <;> rfl
    simp [d8, startE, q_cons, q_if, q_not, q_call, v0, q_ret, q_neg, q_int, evs, tab1, e, truthy, bookFault, q, opt]
  | true =>
    rw [q] at e
    unfold shaped at q
    split at q
    · rename_i s l
      simp only [Bool.and_eq_true, decide_eq_true_eq] at q
      obtain ⟨⟨h1, h2⟩, h3⟩ := q
      cases l with
      | tup l =>
        have hs : ∀ d ∈ s, PD d := (ht.mem (.tup s) (by simp)).mem
        have hl : ∀ d ∈ l, PD d := (ht.mem (.tup l) (by simp)).mem
        have hll : l.length = s.length := by
          have h4 : (l.length : Int) = s.length := by simpa [tupOf] using h3
          omega
        have c1 : ∀ (a b : Option D), ev GP (subP prg) (tab prg wf (k + 4)) (.comp false (.call 1 (.cons (.var 4) (.cons (.int 1) (.cons (.glob 1) .nil)))) (.nm 4) (.seq (.var 2)) .nil) (k + 4) th [some (.tup [.tup s, .tup l]), a, some (.tup s), some (.tup l), b, none, none] S = .ok (.lst ((s.map (numFrom 1 60)).map .bl)) S := fun a b => by
          have := q_comp (G := GP) (sub := subP prg) (C := tab prg wf (k + 4)) (n := k + 4) (th := th) (ρ := [some (.tup [.tup s, .tup l]), a, some (.tup s), some (.tup l), b, none, none]) (S := S) (tg := .nm 4) (it := .seq (.var 2)) (elt := .call 1 (.cons (.var 4) (.cons (.int 1) (.cons (.glob 1) .nil)))) (conds := .nil) (ds := s) (p := fun _ => true) (f := fun d => .bl (numFrom 1 60 d)) rfl (by omega) fun d hd => ⟨_, rfl, rfl, fun _ => by
            have g1 : GP[1]? = some 60 := rfl
            have z := s_from (wf := wf) (k := k + 2) (th := noThk) (S := S) (hs d hd) 1 60
            have dn : ∀ c w, d ≠ .exc c w := fun c w h => by have := hs d hd; rw [h] at this; cases this
            have dl : d ≠ .lam := fun h => by have := hs d hd; rw [h] at this; cases this
            have v4 : ev GP (subP prg) (tab prg wf (k + 4)) (.var 4) (k + 4) th [some (.tup [.tup s, .tup l]), a, some (.tup s), some (.tup l), some d, none, none] S = .ok d S := by
              rw [q_var]
              have := hs d hd
              cases this <;> rfl
            show ev _ _ _ _ _ _ [some (.tup [.tup s, .tup l]), a, some (.tup s), some (.tup l), some d, none, none] S = _
            rw [q_call]
            simp only [evs, v4, R.bind_ok, q_int, q_glob, g1, tab1]
            exact z⟩
          rw [this, List.filter_eq_self.mpr (fun _ _ => rfl), List.map_map]
          rfl
        have c2 : ∀ (a b : Option D), ev GP (subP prg) (tab prg wf (k + 4)) (.comp false (.call 10 (.cons (.callB .len (.cons (.var 2) .nil)) (.cons (.var 5) (.cons (.var 6) .nil)))) (.tp [5, 6]) (.enum (.var 3)) .nil) (k + 4) th [some (.tup [.tup s, .tup l]), a, some (.tup s), some (.tup l), b, none, none] S = .ok (.lst ((flags s.length l 0).map .bl)) S := fun a b => by
          have := q_comp (G := GP) (sub := subP prg) (C := tab prg wf (k + 4)) (n := k + 4) (th := th) (ρ := [some (.tup [.tup s, .tup l]), a, some (.tup s), some (.tup l), b, none, none]) (S := S) (tg := .tp [5, 6]) (it := .enum (.var 3)) (elt := .call 10 (.cons (.callB .len (.cons (.var 2) .nil)) (.cons (.var 5) (.cons (.var 6) .nil)))) (conds := .nil) (ds := enumD l 0) (p := fun _ => true) (f := pairF s.length) rfl (by rw [enumD_length]; omega) fun d hd => by
            obtain ⟨j, row, hm, rfl⟩ := enumD_mem hd
            refine ⟨_, rfl, rfl, fun _ => ?_⟩
            have z := s_formed (wf := wf) (k := k) (th := noThk) (S := S) (p := s.length) (part := j) (hl row hm)
            have v6 : ev GP (subP prg) (tab prg wf (k + 4)) (.var 6) (k + 4) th [some (.tup [.tup s, .tup l]), a, some (.tup s), some (.tup l), b, some (.int j), some row] S = .ok row S := by
              rw [q_var]
              have := hl row hm
              cases this <;> rfl
            have v5 : ev GP (subP prg) (tab prg wf (k + 4)) (.var 5) (k + 4) th [some (.tup [.tup s, .tup l]), a, some (.tup s), some (.tup l), b, some (.int j), some row] S = .ok (.int j) S := rfl
            have v2 : ev GP (subP prg) (tab prg wf (k + 4)) (.callB .len (.cons (.var 2) .nil)) (k + 4) th [some (.tup [.tup s, .tup l]), a, some (.tup s), some (.tup l), b, some (.int j), some row] S = .ok (.int s.length) S := rfl
            show ev _ _ _ _ _ _ [some (.tup [.tup s, .tup l]), a, some (.tup s), some (.tup l), b, some (.int j), some row] S = _
            rw [q_call]
            simp only [evs, v2, v5, v6, R.bind_ok, tab1]
            exact z
          rw [this, List.filter_eq_self.mpr (fun _ _ => rfl), pairF_map]
        have f1 : callF prg wf (k + 4) 4 [.lst ((s.map (numFrom 1 60)).map .bl)] noThk S = _ := s_first (wf := wf) (k := k + 3) (th := noThk) (S := S) (s.map (numFrom 1 60))
        have f2 : callF prg wf (k + 4) 4 [.lst ((flags s.length l 0).map .bl)] noThk S = _ := s_first (wf := wf) (k := k + 3) (th := noThk) (S := S) (flags s.length l 0)
        have hG : prg.globs.map (·.2) = GP := rfl
        have bf := bookFault_eq (s := s) (l := l) (by simp [shaped, tupOf, h1, h2, hll])
        rw [bf]
        simp only [d8, startE, q_cons, q_if, q_not, q_call, evs, tab1, q_asg, q_ret, q_cmp, q_tup, q_int, q_neg, q_non, q_nil]
        rcases firstF_or (s.map (numFrom 1 60)) 0 with z1 | ⟨j1, z1⟩
        · rcases firstF_or (flags s.length l 0) 0 with z2 | ⟨j2, z2⟩
          · rw [z1] at f1 ⊢
            rw [z2] at f2 ⊢
            simp [q_var, e, truthy, setTg, setAll, c1, c2, f1, f2, cmpop, isNon, opt, hG, fin, ft_non, ft_one, ft_two, -List.map_map]
          · rw [z1] at f1 ⊢
            rw [z2] at f2 ⊢
            simp [q_var, e, truthy, setTg, setAll, c1, c2, f1, f2, cmpop, isNon, opt, hG, fin, ft_non, ft_one, ft_two, -List.map_map]
        · rw [z1] at f1 ⊢
          simp [q_var, e, truthy, setTg, setAll, c1, f1, cmpop, isNon, opt, hG, fin, ft_non, ft_one, ft_two, -List.map_map]
      | _ => simp [tupOf] at h3
    · cases q
theorem v_pd {G : List Int} {sub : Nat → Nat → Option Bool} {C : Nat → Fns} {n i : Nat} {ρ : Env} {t : D} (ht : PD t) (h : ρ[i]? = some (some t)) : ev G sub C (.var i) n th ρ S = .ok t S := by
  rw [q_var, h]
  cases ht <;> rfl
/-- made_book -/
theorem s_made {t : D} (ht : PD t) : callF prg wf (k + 6) 5 [t] th S = (if isN (bookFault t) then .ok t S else .exn 1 (bookFault t) S) := by
  rw [call_eq (d := d5) rfl rfl]
  have e := s_fault (wf := wf) (k := k) (th := noThk) (S := S) ht
  have v0 : ∀ a, ev GP (subP prg) (tab prg wf (k + 5)) (.var 0) (k + 5) th [some t, a] S = .ok t S := fun a => v_pd ht rfl
  have v1 : ev GP (subP prg) (tab prg wf (k + 5)) (.var 1) (k + 5) th [some t, some (bookFault t)] S = .ok (bookFault t) S := v_pd (bookFault_PD t) rfl
  have hG : prg.globs.map (·.2) = GP := rfl
  simp [d5, startE, q_cons, q_nil, q_if, q_call, q_asg, q_ret, q_cmp, q_non, q_raise, evs, tab1, hG, v0, e, setTg, v1]
  cases q : bookFault t <;> rw [q] at v1 <;> simp [cmpop, isNon, truthy, opt, isN, fin, v0, v1]
/-- is_book -/
theorem s_isbook {t : D} (ht : PD t) : callF prg wf (k + 6) 6 [t] th S = .ok (.bl (isN (bookFault t))) S := by
  rw [call_eq (d := d6) rfl rfl]
  have e := s_fault (wf := wf) (k := k) (th := noThk) (S := S) ht
  have v0 : ev GP (subP prg) (tab prg wf (k + 5)) (.var 0) (k + 5) th [some t] S = .ok t S := v_pd ht rfl
  have hG : prg.globs.map (·.2) = GP := rfl
  simp [d6, startE, q_cons, q_nil, q_call, q_ret, q_cmp, q_non, evs, tab1, hG, v0, e]
  cases q : bookFault t <;> simp [cmpop, isNon, truthy, opt, isN, fin]
theorem comp_plain {ρ : Env} {it : It} {n l : Nat} {c : Nat → Fns} (hi : evIt GP (subP prg) c it l th ρ S = .ok (rangeD 0 n) S) (hn : n ≤ 16777216) (hρ : 1 < ρ.length) : ev GP (subP prg) c (.callB .tuple (.cons (.comp false (.tup (.cons (.var 1) .nil)) (.nm 1) it .nil) .nil)) l th ρ S = .ok (plainD n) S := by
  have := q_comp (G := GP) (sub := subP prg) (C := c) (n := l) (th := th) (ρ := ρ) (S := S) (tg := .nm 1) (it := it) (elt := .tup (.cons (.var 1) .nil)) (conds := .nil) (ds := rangeD 0 n) (p := fun _ => true) (f := fun d => .tup [d]) hi (by rw [rangeD_len]; omega) fun d hd => ⟨ρ.set 1 (some d), by simp [setTg, hρ], rfl, fun _ => by
    obtain ⟨i, rfl, _⟩ := rangeD_mem hd
    have g : (ρ.set 1 (some (D.int i)))[1]? = some (some (D.int i)) := by simp [hρ]
    simp [q_tup, evs, q_var, g]⟩
  rw [q_callB]
  simp only [evs, this, R.bind_ok]
  rw [List.filter_eq_self.mpr (fun _ _ => rfl)]
  rfl
/-- the links of a plain book, as the law makes them -/
theorem s_plainlinks {n : Nat} (hn : n ≤ 16777216) : callF prg wf (k + 1) 14 [.int n] th S = .ok (plainD n) S := by
  rw [call_eq (d := d14) rfl rfl]
  have e0 : ev GP (subP prg) (tab prg wf k) (.var 0) k th [some (.int n), none] S = .ok (.int n) S := v_pd (.int _) rfl
  have e := comp_plain (it_range1 e0 hn) hn (by simp)
  have hG : prg.globs.map (·.2) = GP := rfl
  simp only [d14, startE, q_cons, q_ret, hG]
  show fin (((ev GP (subP prg) (tab prg wf k) _ k th [some (.int n), none] S).go _ _).bind _) = _
  rw [e]
  rfl
end BhK00

set_option Elab.async false
set_option linter.all false
set_option maxRecDepth 100000
set_option maxHeartbeats 1000000
namespace BhK00
open Bh
section
variable {wf k : Nat} {th : Thk} {S : Sto}
/-- plain -/
theorem s_plain {t : D} (ht : PD t) (hb : ∀ s, t = .tup s → s.length ≤ 16777216) : callF prg wf (k + 7) 7 [t] th S = (match t with
    | .tup s => (if isN (bookFault (.tup [.tup s, plainD s.length])) then .ok (.tup [.tup s, plainD s.length]) S else .exn 1 (bookFault (.tup [.tup s, plainD s.length])) S)
    | _ => .exn 1 (.int (-1)) S) := by
  rw [call_to (d := d7) (ρ := [some t, none]) (G := GP) rfl rfl rfl rfl]
  have lk := fun S => look_pd ht S
  cases t with
  | tup s =>
    have hs := hb s rfl
    have hl : ev GP (subP prg) (tab prg wf (k + 6)) (.callB .len (.cons (.var 0) .nil)) (k + 6) th [some (.tup s), none] S = .ok (.int s.length) S := by simp only [q_cons, q_nil, q_sexpr, q_asg, q_par, q_if, q_for, q_ret, q_raise, q_v, q_int, q_bl, q_non, q_str, q_glob, q_bin, q_neg, q_cmp, q_chain, q_and_, q_or_, q_not, q_ife, q_call, q_callB, q_tup, q_lst, q_cell, q_ix, q_slLo, q_slHi, q_slLH, q_rev, q_append, q_what, q_isX, es_nil, es_cons, ea_one, ea_cons, eo_one, eo_cons, el_nil, el_cons, it_seq, it_enum, sd_tup, sd_lst, e0, e1, e2, e3, e4, e5, e6, e7, e8, e9, e10, e11, e12, e13, e14, e15, e16, e17, e18, e19, e20, e21, e22, e23, e24, w0, w1, w2, w3, w4, w5, w6, w7, w8, w9, w10, w11, w12, w13, w14, w15, w16, w17, w18, w19, w20, w21, w22, w23, w24, look_non, look_bl, look_int, look_str, look_tup, look_lst, look_frz, look_ref, rb_ok, rb_exn, rg_ok, rg_exn, rs_next, rs_ret, rs_exn, op_some, om_some, sg_nm, sg_tp, sg_tp2, sa_nil, sa_cons, t_bl, t_non, t_int, t_tup, t_lst, f_next, f_ret, f_exn, tab1, Bool.not_true, Bool.not_false, b_add, b_sub, c_eq, c_ne, c_lt, c_le, c_gt, c_ge, c_is, c_isnot, i_tup, i_lst, eq_int, eq_bl, cb_isI, cb_tuple, cb_list, cb_lenL, cb_lenT, isN_non, isN_int, isN_tup]
    have e := comp_plain (it_range1 hl hs) hs (by simp)
    have m := s_made (wf := wf) (k := k) (th := noThk) (S := S) (t := .tup [.tup s, plainD s.length]) (.tup _ (by simp; exact ⟨ht, plainD_PD _⟩))
    have ty : isTy (.tup s) .tuple = some true := rfl
    have hb : d7.body = .cons (.if_ (.not (.callB (.isI .tuple) (.cons (.var 0) .nil))) (.cons (.raise 1 (.neg (.int 1))) (.nil)) (.nil)) (.cons (.ret (.call 5 (.cons (.tup (.cons (.var 0) (.cons (.callB .tuple (.cons (.comp false (.tup (.cons (.var 1) .nil)) (.nm 1) (.range1 (.callB .len (.cons (.var 0) .nil))) .nil) .nil)) .nil))) .nil))) (.nil)) := rfl
    have c : ev GP (subP prg) (tab prg wf (k + 6)) (.call 5 (.cons (.tup (.cons (.var 0) (.cons (.callB .tuple (.cons (.comp false (.tup (.cons (.var 1) .nil)) (.nm 1) (.range1 (.callB .len (.cons (.var 0) .nil))) .nil) .nil)) .nil))) .nil)) (k + 6) th [some (.tup s), none] S = callF prg wf (k + 6) 5 [.tup [.tup s, plainD s.length]] noThk S := by
      rw [q_call, es_cons, q_tup, es_cons, q_v, e0, look_tup, rb_ok, es_cons, e]
      simp only [rb_ok, es_nil, tab1]
    generalize (.call 5 (.cons (.tup (.cons (.var 0) (.cons (.callB .tuple (.cons (.comp false (.tup (.cons (.var 1) .nil)) (.nm 1) (.range1 (.callB .len (.cons (.var 0) .nil))) .nil) .nil)) .nil))) .nil) : Ex) = E at hb c
    simp only [hb, q_cons, q_nil, q_sexpr, q_asg, q_par, q_if, q_for, q_ret, q_raise, q_v, q_int, q_bl, q_non, q_str, q_glob, q_bin, q_neg, q_cmp, q_chain, q_and_, q_or_, q_not, q_ife, q_call, q_callB, q_tup, q_lst, q_cell, q_ix, q_slLo, q_slHi, q_slLH, q_rev, q_append, q_what, q_isX, es_nil, es_cons, ea_one, ea_cons, eo_one, eo_cons, el_nil, el_cons, it_seq, it_enum, sd_tup, sd_lst, e0, e1, e2, e3, e4, e5, e6, e7, e8, e9, e10, e11, e12, e13, e14, e15, e16, e17, e18, e19, e20, e21, e22, e23, e24, w0, w1, w2, w3, w4, w5, w6, w7, w8, w9, w10, w11, w12, w13, w14, w15, w16, w17, w18, w19, w20, w21, w22, w23, w24, look_non, look_bl, look_int, look_str, look_tup, look_lst, look_frz, look_ref, rb_ok, rb_exn, rg_ok, rg_exn, rs_next, rs_ret, rs_exn, op_some, om_some, sg_nm, sg_tp, sg_tp2, sa_nil, sa_cons, t_bl, t_non, t_int, t_tup, t_lst, f_next, f_ret, f_exn, tab1, Bool.not_true, Bool.not_false, b_add, b_sub, c_eq, c_ne, c_lt, c_le, c_gt, c_ge, c_is, c_isnot, i_tup, i_lst, eq_int, eq_bl, cb_isI, cb_tuple, cb_list, cb_lenL, cb_lenT, isN_non, isN_int, isN_tup, ty, c, m]
    split
    · simp only [q_cons, q_nil, q_sexpr, q_asg, q_par, q_if, q_for, q_ret, q_raise, q_v, q_int, q_bl, q_non, q_str, q_glob, q_bin, q_neg, q_cmp, q_chain, q_and_, q_or_, q_not, q_ife, q_call, q_callB, q_tup, q_lst, q_cell, q_ix, q_slLo, q_slHi, q_slLH, q_rev, q_append, q_what, q_isX, es_nil, es_cons, ea_one, ea_cons, eo_one, eo_cons, el_nil, el_cons, it_seq, it_enum, sd_tup, sd_lst, e0, e1, e2, e3, e4, e5, e6, e7, e8, e9, e10, e11, e12, e13, e14, e15, e16, e17, e18, e19, e20, e21, e22, e23, e24, w0, w1, w2, w3, w4, w5, w6, w7, w8, w9, w10, w11, w12, w13, w14, w15, w16, w17, w18, w19, w20, w21, w22, w23, w24, look_non, look_bl, look_int, look_str, look_tup, look_lst, look_frz, look_ref, rb_ok, rb_exn, rg_ok, rg_exn, rs_next, rs_ret, rs_exn, op_some, om_some, sg_nm, sg_tp, sg_tp2, sa_nil, sa_cons, t_bl, t_non, t_int, t_tup, t_lst, f_next, f_ret, f_exn, tab1, Bool.not_true, Bool.not_false, b_add, b_sub, c_eq, c_ne, c_lt, c_le, c_gt, c_ge, c_is, c_isnot, i_tup, i_lst, eq_int, eq_bl, cb_isI, cb_tuple, cb_list, cb_lenL, cb_lenT, isN_non, isN_int, isN_tup]
    · simp only [q_cons, q_nil, q_sexpr, q_asg, q_par, q_if, q_for, q_ret, q_raise, q_v, q_int, q_bl, q_non, q_str, q_glob, q_bin, q_neg, q_cmp, q_chain, q_and_, q_or_, q_not, q_ife, q_call, q_callB, q_tup, q_lst, q_cell, q_ix, q_slLo, q_slHi, q_slLH, q_rev, q_append, q_what, q_isX, es_nil, es_cons, ea_one, ea_cons, eo_one, eo_cons, el_nil, el_cons, it_seq, it_enum, sd_tup, sd_lst, e0, e1, e2, e3, e4, e5, e6, e7, e8, e9, e10, e11, e12, e13, e14, e15, e16, e17, e18, e19, e20, e21, e22, e23, e24, w0, w1, w2, w3, w4, w5, w6, w7, w8, w9, w10, w11, w12, w13, w14, w15, w16, w17, w18, w19, w20, w21, w22, w23, w24, look_non, look_bl, look_int, look_str, look_tup, look_lst, look_frz, look_ref, rb_ok, rb_exn, rg_ok, rg_exn, rs_next, rs_ret, rs_exn, op_some, om_some, sg_nm, sg_tp, sg_tp2, sa_nil, sa_cons, t_bl, t_non, t_int, t_tup, t_lst, f_next, f_ret, f_exn, tab1, Bool.not_true, Bool.not_false, b_add, b_sub, c_eq, c_ne, c_lt, c_le, c_gt, c_ge, c_is, c_isnot, i_tup, i_lst, eq_int, eq_bl, cb_isI, cb_tuple, cb_list, cb_lenL, cb_lenT, isN_non, isN_int, isN_tup]
  | lst _ => cases ht
  | frz _ => cases ht
  | ref _ => cases ht
  | exc _ _ => cases ht
  | lam => cases ht
  | _ =>
    have r : (2 ≤ k + 6) := by omega
    simp only [d7, q_cons, q_nil, q_sexpr, q_asg, q_par, q_if, q_for, q_ret, q_raise, q_v, q_int, q_bl, q_non, q_str, q_glob, q_bin, q_neg, q_cmp, q_chain, q_and_, q_or_, q_not, q_ife, q_call, q_callB, q_tup, q_lst, q_cell, q_ix, q_slLo, q_slHi, q_slLH, q_rev, q_append, q_what, q_isX, es_nil, es_cons, ea_one, ea_cons, eo_one, eo_cons, el_nil, el_cons, it_seq, it_enum, sd_tup, sd_lst, e0, e1, e2, e3, e4, e5, e6, e7, e8, e9, e10, e11, e12, e13, e14, e15, e16, e17, e18, e19, e20, e21, e22, e23, e24, w0, w1, w2, w3, w4, w5, w6, w7, w8, w9, w10, w11, w12, w13, w14, w15, w16, w17, w18, w19, w20, w21, w22, w23, w24, look_non, look_bl, look_int, look_str, look_tup, look_lst, look_frz, look_ref, rb_ok, rb_exn, rg_ok, rg_exn, rs_next, rs_ret, rs_exn, op_some, om_some, sg_nm, sg_tp, sg_tp2, sa_nil, sa_cons, t_bl, t_non, t_int, t_tup, t_lst, f_next, f_ret, f_exn, tab1, Bool.not_true, Bool.not_false, b_add, b_sub, c_eq, c_ne, c_lt, c_le, c_gt, c_ge, c_is, c_isnot, i_tup, i_lst, eq_int, eq_bl, cb_isI, cb_tuple, cb_list, cb_lenL, cb_lenT, isN_non, isN_int, isN_tup, isTy, q_raise, if_pos r]
end
end BhK00

set_option Elab.async false
set_option linter.all false
set_option maxRecDepth 100000
set_option maxHeartbeats 1000000
namespace BhK00
open Bh
section
variable {wf k : Nat} {th : Thk} {S : Sto}
theorem s_whole {d : D} (h : PD d) (lo hi : Int) : callF prg wf (k + 1) 16 [d, .int lo, .int hi] th S = .ok (.bl (numFrom lo hi d)) S := by
  rw [call_to (d := d16) (ρ := [some d, some (.int lo), some (.int hi)]) (G := GP) rfl rfl rfl rfl]
  cases h with
  | int i =>
    by_cases p : lo ≤ i
    · by_cases q : i ≤ hi
      · simp only [d16, q_cons, q_nil, q_sexpr, q_asg, q_par, q_if, q_for, q_ret, q_raise, q_v, q_int, q_bl, q_non, q_str, q_glob, q_bin, q_neg, q_cmp, q_chain, q_and_, q_or_, q_not, q_ife, q_call, q_callB, q_tup, q_lst, q_cell, q_ix, q_slLo, q_slHi, q_slLH, q_rev, q_append, q_what, q_isX, es_nil, es_cons, ea_one, ea_cons, eo_one, eo_cons, el_nil, el_cons, it_seq, it_enum, sd_tup, sd_lst, e0, e1, e2, e3, e4, e5, e6, e7, e8, e9, e10, e11, e12, e13, e14, e15, e16, e17, e18, e19, e20, e21, e22, e23, e24, w0, w1, w2, w3, w4, w5, w6, w7, w8, w9, w10, w11, w12, w13, w14, w15, w16, w17, w18, w19, w20, w21, w22, w23, w24, look_non, look_bl, look_int, look_str, look_tup, look_lst, look_frz, look_ref, rb_ok, rb_exn, rg_ok, rg_exn, rs_next, rs_ret, rs_exn, op_some, om_some, sg_nm, sg_tp, sg_tp2, sa_nil, sa_cons, t_bl, t_non, t_int, t_tup, t_lst, f_next, f_ret, f_exn, tab1, Bool.not_true, Bool.not_false, b_add, b_sub, c_eq, c_ne, c_lt, c_le, c_gt, c_ge, c_is, c_isnot, i_tup, i_lst, eq_int, eq_bl, cb_isI, cb_tuple, cb_list, cb_lenL, cb_lenT, isN_non, isN_int, isN_tup, isTy, decide_eq_true p, decide_eq_true q, numFrom, Bool.and_self]
      · simp only [d16, q_cons, q_nil, q_sexpr, q_asg, q_par, q_if, q_for, q_ret, q_raise, q_v, q_int, q_bl, q_non, q_str, q_glob, q_bin, q_neg, q_cmp, q_chain, q_and_, q_or_, q_not, q_ife, q_call, q_callB, q_tup, q_lst, q_cell, q_ix, q_slLo, q_slHi, q_slLH, q_rev, q_append, q_what, q_isX, es_nil, es_cons, ea_one, ea_cons, eo_one, eo_cons, el_nil, el_cons, it_seq, it_enum, sd_tup, sd_lst, e0, e1, e2, e3, e4, e5, e6, e7, e8, e9, e10, e11, e12, e13, e14, e15, e16, e17, e18, e19, e20, e21, e22, e23, e24, w0, w1, w2, w3, w4, w5, w6, w7, w8, w9, w10, w11, w12, w13, w14, w15, w16, w17, w18, w19, w20, w21, w22, w23, w24, look_non, look_bl, look_int, look_str, look_tup, look_lst, look_frz, look_ref, rb_ok, rb_exn, rg_ok, rg_exn, rs_next, rs_ret, rs_exn, op_some, om_some, sg_nm, sg_tp, sg_tp2, sa_nil, sa_cons, t_bl, t_non, t_int, t_tup, t_lst, f_next, f_ret, f_exn, tab1, Bool.not_true, Bool.not_false, b_add, b_sub, c_eq, c_ne, c_lt, c_le, c_gt, c_ge, c_is, c_isnot, i_tup, i_lst, eq_int, eq_bl, cb_isI, cb_tuple, cb_list, cb_lenL, cb_lenT, isN_non, isN_int, isN_tup, isTy, decide_eq_true p, decide_eq_false q, numFrom, Bool.and_false]
    · simp only [d16, q_cons, q_nil, q_sexpr, q_asg, q_par, q_if, q_for, q_ret, q_raise, q_v, q_int, q_bl, q_non, q_str, q_glob, q_bin, q_neg, q_cmp, q_chain, q_and_, q_or_, q_not, q_ife, q_call, q_callB, q_tup, q_lst, q_cell, q_ix, q_slLo, q_slHi, q_slLH, q_rev, q_append, q_what, q_isX, es_nil, es_cons, ea_one, ea_cons, eo_one, eo_cons, el_nil, el_cons, it_seq, it_enum, sd_tup, sd_lst, e0, e1, e2, e3, e4, e5, e6, e7, e8, e9, e10, e11, e12, e13, e14, e15, e16, e17, e18, e19, e20, e21, e22, e23, e24, w0, w1, w2, w3, w4, w5, w6, w7, w8, w9, w10, w11, w12, w13, w14, w15, w16, w17, w18, w19, w20, w21, w22, w23, w24, look_non, look_bl, look_int, look_str, look_tup, look_lst, look_frz, look_ref, rb_ok, rb_exn, rg_ok, rg_exn, rs_next, rs_ret, rs_exn, op_some, om_some, sg_nm, sg_tp, sg_tp2, sa_nil, sa_cons, t_bl, t_non, t_int, t_tup, t_lst, f_next, f_ret, f_exn, tab1, Bool.not_true, Bool.not_false, b_add, b_sub, c_eq, c_ne, c_lt, c_le, c_gt, c_ge, c_is, c_isnot, i_tup, i_lst, eq_int, eq_bl, cb_isI, cb_tuple, cb_list, cb_lenL, cb_lenT, isN_non, isN_int, isN_tup, isTy, decide_eq_false p, numFrom, Bool.false_and]
  | _ => simp only [d16, q_cons, q_nil, q_sexpr, q_asg, q_par, q_if, q_for, q_ret, q_raise, q_v, q_int, q_bl, q_non, q_str, q_glob, q_bin, q_neg, q_cmp, q_chain, q_and_, q_or_, q_not, q_ife, q_call, q_callB, q_tup, q_lst, q_cell, q_ix, q_slLo, q_slHi, q_slLH, q_rev, q_append, q_what, q_isX, es_nil, es_cons, ea_one, ea_cons, eo_one, eo_cons, el_nil, el_cons, it_seq, it_enum, sd_tup, sd_lst, e0, e1, e2, e3, e4, e5, e6, e7, e8, e9, e10, e11, e12, e13, e14, e15, e16, e17, e18, e19, e20, e21, e22, e23, e24, w0, w1, w2, w3, w4, w5, w6, w7, w8, w9, w10, w11, w12, w13, w14, w15, w16, w17, w18, w19, w20, w21, w22, w23, w24, look_non, look_bl, look_int, look_str, look_tup, look_lst, look_frz, look_ref, rb_ok, rb_exn, rg_ok, rg_exn, rs_next, rs_ret, rs_exn, op_some, om_some, sg_nm, sg_tp, sg_tp2, sa_nil, sa_cons, t_bl, t_non, t_int, t_tup, t_lst, f_next, f_ret, f_exn, tab1, Bool.not_true, Bool.not_false, b_add, b_sub, c_eq, c_ne, c_lt, c_le, c_gt, c_ge, c_is, c_isnot, i_tup, i_lst, eq_int, eq_bl, cb_isI, cb_tuple, cb_list, cb_lenL, cb_lenT, isN_non, isN_int, isN_tup, isTy, numFrom]
theorem s_arelinks {thing : D} {n part m : Nat} (h : Lv m thing) (hm : m ≤ 60) : callF prg wf (k + 2) 17 [thing, .int part, .int n] th S = .ok (.bl (formed n part thing)) S := by
  rw [call_to (d := d17) (ρ := [some thing, some (.int part), some (.int n), none, none]) (G := GP) rfl rfl rfl rfl]
  cases h with
  | tup m l h1 h2 =>
    have c1 : ev GP (subP prg) (tab prg wf (k + 1)) (.comp false (.var 3) (.nm 3) (.seq (.var 0)) (.cons (.not (.call 16 (.cons (.var 3) (.cons (.int 0) (.cons (.bin .sub (.var 2) (.int 1)) .nil))))) .nil)) (k + 1) th [some (.tup l), some (.int part), some (.int n), none, none] S = .ok (.lst (l.filter fun d => !numFrom 0 ((n : Int) - 1) d)) S := by
      have := q_comp (G := GP) (sub := subP prg) (C := tab prg wf (k + 1)) (n := k + 1) (th := th) (ρ := [some (.tup l), some (.int part), some (.int n), none, none]) (S := S) (tg := .nm 3) (it := .seq (.var 0)) (elt := .var 3) (conds := (.cons (.not (.call 16 (.cons (.var 3) (.cons (.int 0) (.cons (.bin .sub (.var 2) (.int 1)) .nil))))) .nil)) (ds := l) (p := fun d => !numFrom 0 ((n : Int) - 1) d) (f := fun d => d) rfl (by omega) fun d hd => ⟨[some (.tup l), some (.int part), some (.int n), some d, none], rfl, by
          have pd := (h2 d hd).pd
          have e := s_whole (wf := wf) (k := k) (th := noThk) (S := S) pd 0 ((n : Int) - 1)
          simp only [q_cons, q_nil, q_sexpr, q_asg, q_par, q_if, q_for, q_ret, q_raise, q_v, q_int, q_bl, q_non, q_str, q_glob, q_bin, q_neg, q_cmp, q_chain, q_and_, q_or_, q_not, q_ife, q_call, q_callB, q_tup, q_lst, q_cell, q_ix, q_slLo, q_slHi, q_slLH, q_rev, q_append, q_what, q_isX, es_nil, es_cons, ea_one, ea_cons, eo_one, eo_cons, el_nil, el_cons, it_seq, it_enum, sd_tup, sd_lst, e0, e1, e2, e3, e4, e5, e6, e7, e8, e9, e10, e11, e12, e13, e14, e15, e16, e17, e18, e19, e20, e21, e22, e23, e24, w0, w1, w2, w3, w4, w5, w6, w7, w8, w9, w10, w11, w12, w13, w14, w15, w16, w17, w18, w19, w20, w21, w22, w23, w24, look_non, look_bl, look_int, look_str, look_tup, look_lst, look_frz, look_ref, rb_ok, rb_exn, rg_ok, rg_exn, rs_next, rs_ret, rs_exn, op_some, om_some, sg_nm, sg_tp, sg_tp2, sa_nil, sa_cons, t_bl, t_non, t_int, t_tup, t_lst, f_next, f_ret, f_exn, tab1, Bool.not_true, Bool.not_false, b_add, b_sub, c_eq, c_ne, c_lt, c_le, c_gt, c_ge, c_is, c_isnot, i_tup, i_lst, eq_int, eq_bl, cb_isI, cb_tuple, cb_list, cb_lenL, cb_lenT, isN_non, isN_int, isN_tup, look_pd pd, e]
          cases numFrom 0 ((n : Int) - 1) d <;> rfl, fun _ => by
          have pd := (h2 d hd).pd
          simp only [q_cons, q_nil, q_sexpr, q_asg, q_par, q_if, q_for, q_ret, q_raise, q_v, q_int, q_bl, q_non, q_str, q_glob, q_bin, q_neg, q_cmp, q_chain, q_and_, q_or_, q_not, q_ife, q_call, q_callB, q_tup, q_lst, q_cell, q_ix, q_slLo, q_slHi, q_slLH, q_rev, q_append, q_what, q_isX, es_nil, es_cons, ea_one, ea_cons, eo_one, eo_cons, el_nil, el_cons, it_seq, it_enum, sd_tup, sd_lst, e0, e1, e2, e3, e4, e5, e6, e7, e8, e9, e10, e11, e12, e13, e14, e15, e16, e17, e18, e19, e20, e21, e22, e23, e24, w0, w1, w2, w3, w4, w5, w6, w7, w8, w9, w10, w11, w12, w13, w14, w15, w16, w17, w18, w19, w20, w21, w22, w23, w24, look_non, look_bl, look_int, look_str, look_tup, look_lst, look_frz, look_ref, rb_ok, rb_exn, rg_ok, rg_exn, rs_next, rs_ret, rs_exn, op_some, om_some, sg_nm, sg_tp, sg_tp2, sa_nil, sa_cons, t_bl, t_non, t_int, t_tup, t_lst, f_next, f_ret, f_exn, tab1, Bool.not_true, Bool.not_false, b_add, b_sub, c_eq, c_ne, c_lt, c_le, c_gt, c_ge, c_is, c_isnot, i_tup, i_lst, eq_int, eq_bl, cb_isI, cb_tuple, cb_list, cb_lenL, cb_lenT, isN_non, isN_int, isN_tup, look_pd pd]⟩
      rw [List.map_id'] at this
      exact this
    generalize hE : (Ex.comp false (.var 3) (.nm 3) (.seq (.var 0)) (.cons (.not (.call 16 (.cons (.var 3) (.cons (.int 0) (.cons (.bin .sub (.var 2) (.int 1)) .nil))))) .nil)) = E1 at c1
    have ee := Lv.eq_nil (l := l.filter fun d => !numFrom 0 ((n : Int) - 1) d) (fun d hd => h2 d (List.mem_filter.mp hd).1) (by omega) S
    generalize hE2 : (Ex.comp false (.var 4) (.nm 4) (.range2 (.int 1) (.callB .len (.cons (.var 0) .nil))) (.cons (.cmp .ge (.ix (.var 0) (.bin .sub (.var 4) (.int 1))) (.ix (.var 0) (.var 4))) .nil)) = E2
    have hb : d17.body = .cons (.if_ (.or_ (.cons (.not (.callB (.isI .tuple) (.cons (.var 0) .nil))) (.cons (.cmp .ne E1 (.lst .nil)) .nil))) (.cons (.ret (.bl false)) (.nil)) (.nil)) (.cons (.ret (.and_ (.cons (.cmp .isin (.var 1) (.var 0)) (.cons (.cmp .eq E2 (.lst .nil)) .nil)))) (.nil)) := by
      rw [← hE, ← hE2]
      rfl
    have ty : isTy (.tup l) .tuple = some true := rfl
    cases q : (l.filter fun d => !numFrom 0 ((n : Int) - 1) d).isEmpty with
    | false =>
      rw [q] at ee
      have r : formed n part (.tup l) = false := by
        cases z : rising ((n : Int) - 1) 0 l with
        | false => simp only [formed, risingD, z, Bool.false_and]
        | true =>
          have := rising_all z
          have : (l.filter fun d => !numFrom 0 ((n : Int) - 1) d) = [] := by
            rw [List.filter_eq_nil_iff]
            intro d hd
            simp [this d hd]
          rw [this] at q
          cases q
      rw [r]
      simp only [hb, q_cons, q_nil, q_sexpr, q_asg, q_par, q_if, q_for, q_ret, q_raise, q_v, q_int, q_bl, q_non, q_str, q_glob, q_bin, q_neg, q_cmp, q_chain, q_and_, q_or_, q_not, q_ife, q_call, q_callB, q_tup, q_lst, q_cell, q_ix, q_slLo, q_slHi, q_slLH, q_rev, q_append, q_what, q_isX, es_nil, es_cons, ea_one, ea_cons, eo_one, eo_cons, el_nil, el_cons, it_seq, it_enum, sd_tup, sd_lst, e0, e1, e2, e3, e4, e5, e6, e7, e8, e9, e10, e11, e12, e13, e14, e15, e16, e17, e18, e19, e20, e21, e22, e23, e24, w0, w1, w2, w3, w4, w5, w6, w7, w8, w9, w10, w11, w12, w13, w14, w15, w16, w17, w18, w19, w20, w21, w22, w23, w24, look_non, look_bl, look_int, look_str, look_tup, look_lst, look_frz, look_ref, rb_ok, rb_exn, rg_ok, rg_exn, rs_next, rs_ret, rs_exn, op_some, om_some, sg_nm, sg_tp, sg_tp2, sa_nil, sa_cons, t_bl, t_non, t_int, t_tup, t_lst, f_next, f_ret, f_exn, tab1, Bool.not_true, Bool.not_false, b_add, b_sub, c_eq, c_ne, c_lt, c_le, c_gt, c_ge, c_is, c_isnot, i_tup, i_lst, eq_int, eq_bl, cb_isI, cb_tuple, cb_list, cb_lenL, cb_lenT, isN_non, isN_int, isN_tup, ty, c1, ee]
    | true =>
      rw [q] at ee
      obtain ⟨r, rfl, hr⟩ := ints_of (lo := 0) (hi := (n : Int) - 1) (l := l) fun d hd => by
        rw [List.isEmpty_iff, List.filter_eq_nil_iff] at q
        simpa using q d hd
      have c2 : ev GP (subP prg) (tab prg wf (k + 1)) E2 (k + 1) th [some (.tup (r.map .int)), some (.int part), some (.int n), none, none] S = .ok (.lst ((rangeD (1 : Nat) (r.length - 1)).filter (fallD r))) S := by
        rw [← hE2]
        have hl : ev GP (subP prg) (tab prg wf (k + 1)) (.callB .len (.cons (.var 0) .nil)) (k + 1) th [some (.tup (r.map .int)), some (.int part), some (.int n), none, none] S = .ok (.int r.length) S := by
          simp only [q_cons, q_nil, q_sexpr, q_asg, q_par, q_if, q_for, q_ret, q_raise, q_v, q_int, q_bl, q_non, q_str, q_glob, q_bin, q_neg, q_cmp, q_chain, q_and_, q_or_, q_not, q_ife, q_call, q_callB, q_tup, q_lst, q_cell, q_ix, q_slLo, q_slHi, q_slLH, q_rev, q_append, q_what, q_isX, es_nil, es_cons, ea_one, ea_cons, eo_one, eo_cons, el_nil, el_cons, it_seq, it_enum, sd_tup, sd_lst, e0, e1, e2, e3, e4, e5, e6, e7, e8, e9, e10, e11, e12, e13, e14, e15, e16, e17, e18, e19, e20, e21, e22, e23, e24, w0, w1, w2, w3, w4, w5, w6, w7, w8, w9, w10, w11, w12, w13, w14, w15, w16, w17, w18, w19, w20, w21, w22, w23, w24, look_non, look_bl, look_int, look_str, look_tup, look_lst, look_frz, look_ref, rb_ok, rb_exn, rg_ok, rg_exn, rs_next, rs_ret, rs_exn, op_some, om_some, sg_nm, sg_tp, sg_tp2, sa_nil, sa_cons, t_bl, t_non, t_int, t_tup, t_lst, f_next, f_ret, f_exn, tab1, Bool.not_true, Bool.not_false, b_add, b_sub, c_eq, c_ne, c_lt, c_le, c_gt, c_ge, c_is, c_isnot, i_tup, i_lst, eq_int, eq_bl, cb_isI, cb_tuple, cb_list, cb_lenL, cb_lenT, isN_non, isN_int, isN_tup, List.length_map]
        rw [List.length_map] at h1
        have hi := it_range2 (G := GP) (sub := subP prg) (C := tab prg wf (k + 1)) (l := k + 1) (th := th) (ρ := [some (.tup (r.map .int)), some (.int part), some (.int n), none, none]) (S := S) (S1 := S) (a := .int 1) (i := 1) (q_int 1) hl (by omega) (by omega)
        have := q_comp (tg := .nm 4) (elt := .var 4) (conds := (.cons (.cmp .ge (.ix (.var 0) (.bin .sub (.var 4) (.int 1))) (.ix (.var 0) (.var 4))) .nil)) (p := fallD r) (f := fun d => d) hi (by rw [rangeD_len]; omega) fun d hd => by
          obtain ⟨i, rfl, i1, i2⟩ := rangeD_mem hd
          have i3 : i < r.length := by omega
          obtain ⟨j, rfl⟩ : ∃ j : Nat, i = ((j + 1 : Nat) : Int) := ⟨i.toNat - 1, by omega⟩
          refine ⟨[some (.tup (r.map .int)), some (.int part), some (.int n), none, some (.int ((j + 1 : Nat) : Int))], rfl, ?_, fun _ => by simp only [q_cons, q_nil, q_sexpr, q_asg, q_par, q_if, q_for, q_ret, q_raise, q_v, q_int, q_bl, q_non, q_str, q_glob, q_bin, q_neg, q_cmp, q_chain, q_and_, q_or_, q_not, q_ife, q_call, q_callB, q_tup, q_lst, q_cell, q_ix, q_slLo, q_slHi, q_slLH, q_rev, q_append, q_what, q_isX, es_nil, es_cons, ea_one, ea_cons, eo_one, eo_cons, el_nil, el_cons, it_seq, it_enum, sd_tup, sd_lst, e0, e1, e2, e3, e4, e5, e6, e7, e8, e9, e10, e11, e12, e13, e14, e15, e16, e17, e18, e19, e20, e21, e22, e23, e24, w0, w1, w2, w3, w4, w5, w6, w7, w8, w9, w10, w11, w12, w13, w14, w15, w16, w17, w18, w19, w20, w21, w22, w23, w24, look_non, look_bl, look_int, look_str, look_tup, look_lst, look_frz, look_ref, rb_ok, rb_exn, rg_ok, rg_exn, rs_next, rs_ret, rs_exn, op_some, om_some, sg_nm, sg_tp, sg_tp2, sa_nil, sa_cons, t_bl, t_non, t_int, t_tup, t_lst, f_next, f_ret, f_exn, tab1, Bool.not_true, Bool.not_false, b_add, b_sub, c_eq, c_ne, c_lt, c_le, c_gt, c_ge, c_is, c_isnot, i_tup, i_lst, eq_int, eq_bl, cb_isI, cb_tuple, cb_list, cb_lenL, cb_lenT, isN_non, isN_int, isN_tup]⟩
          have hj : j + 1 < r.length := by omega
          have x1 : index (.tup (r.map .int)) (.int ((j + 1 : Nat) : Int)) S = some (.int (r.getD (j + 1) 0)) := by
            rw [index_nat (l := r.map .int) rfl (by simpa using hj), List.getElem_map]
            simp [hj]
          have x2 : index (.tup (r.map .int)) (.int (((j + 1 : Nat) : Int) - 1)) S = some (.int (r.getD j 0)) := by
            rw [show ((j + 1 : Nat) : Int) - 1 = (j : Int) by omega, index_nat (l := r.map .int) (j := j) rfl (by simp; omega), List.getElem_map]
            simp [show j < r.length by omega]
          have x3 : fallD r (.int ((j + 1 : Nat) : Int)) = decide (r.getD (j + 1) 0 ≤ r.getD j 0) := by
            simp only [fallD, Int.toNat_natCast, Nat.add_sub_cancel]
          rw [x3]
          simp only [q_cons, q_nil, q_sexpr, q_asg, q_par, q_if, q_for, q_ret, q_raise, q_v, q_int, q_bl, q_non, q_str, q_glob, q_bin, q_neg, q_cmp, q_chain, q_and_, q_or_, q_not, q_ife, q_call, q_callB, q_tup, q_lst, q_cell, q_ix, q_slLo, q_slHi, q_slLH, q_rev, q_append, q_what, q_isX, es_nil, es_cons, ea_one, ea_cons, eo_one, eo_cons, el_nil, el_cons, it_seq, it_enum, sd_tup, sd_lst, e0, e1, e2, e3, e4, e5, e6, e7, e8, e9, e10, e11, e12, e13, e14, e15, e16, e17, e18, e19, e20, e21, e22, e23, e24, w0, w1, w2, w3, w4, w5, w6, w7, w8, w9, w10, w11, w12, w13, w14, w15, w16, w17, w18, w19, w20, w21, w22, w23, w24, look_non, look_bl, look_int, look_str, look_tup, look_lst, look_frz, look_ref, rb_ok, rb_exn, rg_ok, rg_exn, rs_next, rs_ret, rs_exn, op_some, om_some, sg_nm, sg_tp, sg_tp2, sa_nil, sa_cons, t_bl, t_non, t_int, t_tup, t_lst, f_next, f_ret, f_exn, tab1, Bool.not_true, Bool.not_false, b_add, b_sub, c_eq, c_ne, c_lt, c_le, c_gt, c_ge, c_is, c_isnot, i_tup, i_lst, eq_int, eq_bl, cb_isI, cb_tuple, cb_list, cb_lenL, cb_lenT, isN_non, isN_int, isN_tup, x1, x2]
          cases decide (r.getD (j + 1) 0 ≤ r.getD j 0) <;> rfl
        rw [List.map_id'] at this
        exact this
      have ei := inD_ints part r
      have ei2 : cmpop .isin (.int part) (.tup (r.map .int)) S = some ((r.map D.int).any fun y => eqF y (.int part)) := by
        rw [c_in (l := r.map .int) rfl, ei]
      have e2 := Lv.eq_nil (n := 0) (l := (rangeD (1 : Nat) (r.length - 1)).filter (fallD r)) (fun d hd => by
        obtain ⟨i, rfl, i1, i2⟩ := rangeD_mem (List.mem_filter.mp hd).1
        rw [List.length_map] at h1
        exact .int _ _ (by omega)) (by omega) S
      rw [fall_nil (n := n) hr] at e2
      have fe : formed n part (.tup (r.map .int)) = (rising ((n : Int) - 1) 0 (r.map .int) && (r.map D.int).any fun y => eqF y (.int part)) := rfl
      rw [fe]
      cases z : ((r.map D.int).any fun y => eqF y (.int part)) with
      | true =>
        rw [z] at ei2
        simp only [hb, q_cons, q_nil, q_sexpr, q_asg, q_par, q_if, q_for, q_ret, q_raise, q_v, q_int, q_bl, q_non, q_str, q_glob, q_bin, q_neg, q_cmp, q_chain, q_and_, q_or_, q_not, q_ife, q_call, q_callB, q_tup, q_lst, q_cell, q_ix, q_slLo, q_slHi, q_slLH, q_rev, q_append, q_what, q_isX, es_nil, es_cons, ea_one, ea_cons, eo_one, eo_cons, el_nil, el_cons, it_seq, it_enum, sd_tup, sd_lst, e0, e1, e2, e3, e4, e5, e6, e7, e8, e9, e10, e11, e12, e13, e14, e15, e16, e17, e18, e19, e20, e21, e22, e23, e24, w0, w1, w2, w3, w4, w5, w6, w7, w8, w9, w10, w11, w12, w13, w14, w15, w16, w17, w18, w19, w20, w21, w22, w23, w24, look_non, look_bl, look_int, look_str, look_tup, look_lst, look_frz, look_ref, rb_ok, rb_exn, rg_ok, rg_exn, rs_next, rs_ret, rs_exn, op_some, om_some, sg_nm, sg_tp, sg_tp2, sa_nil, sa_cons, t_bl, t_non, t_int, t_tup, t_lst, f_next, f_ret, f_exn, tab1, Bool.not_true, Bool.not_false, b_add, b_sub, c_eq, c_ne, c_lt, c_le, c_gt, c_ge, c_is, c_isnot, i_tup, i_lst, eq_int, eq_bl, cb_isI, cb_tuple, cb_list, cb_lenL, cb_lenT, isN_non, isN_int, isN_tup, ty, c1, ee, ei2, c2, e2, Bool.and_true]
      | false =>
        rw [z] at ei2
        simp only [hb, q_cons, q_nil, q_sexpr, q_asg, q_par, q_if, q_for, q_ret, q_raise, q_v, q_int, q_bl, q_non, q_str, q_glob, q_bin, q_neg, q_cmp, q_chain, q_and_, q_or_, q_not, q_ife, q_call, q_callB, q_tup, q_lst, q_cell, q_ix, q_slLo, q_slHi, q_slLH, q_rev, q_append, q_what, q_isX, es_nil, es_cons, ea_one, ea_cons, eo_one, eo_cons, el_nil, el_cons, it_seq, it_enum, sd_tup, sd_lst, e0, e1, e2, e3, e4, e5, e6, e7, e8, e9, e10, e11, e12, e13, e14, e15, e16, e17, e18, e19, e20, e21, e22, e23, e24, w0, w1, w2, w3, w4, w5, w6, w7, w8, w9, w10, w11, w12, w13, w14, w15, w16, w17, w18, w19, w20, w21, w22, w23, w24, look_non, look_bl, look_int, look_str, look_tup, look_lst, look_frz, look_ref, rb_ok, rb_exn, rg_ok, rg_exn, rs_next, rs_ret, rs_exn, op_some, om_some, sg_nm, sg_tp, sg_tp2, sa_nil, sa_cons, t_bl, t_non, t_int, t_tup, t_lst, f_next, f_ret, f_exn, tab1, Bool.not_true, Bool.not_false, b_add, b_sub, c_eq, c_ne, c_lt, c_le, c_gt, c_ge, c_is, c_isnot, i_tup, i_lst, eq_int, eq_bl, cb_isI, cb_tuple, cb_list, cb_lenL, cb_lenT, isN_non, isN_int, isN_tup, ty, c1, ee, ei2, Bool.and_false]
  | _ => simp only [d17, q_cons, q_nil, q_sexpr, q_asg, q_par, q_if, q_for, q_ret, q_raise, q_v, q_int, q_bl, q_non, q_str, q_glob, q_bin, q_neg, q_cmp, q_chain, q_and_, q_or_, q_not, q_ife, q_call, q_callB, q_tup, q_lst, q_cell, q_ix, q_slLo, q_slHi, q_slLH, q_rev, q_append, q_what, q_isX, es_nil, es_cons, ea_one, ea_cons, eo_one, eo_cons, el_nil, el_cons, it_seq, it_enum, sd_tup, sd_lst, e0, e1, e2, e3, e4, e5, e6, e7, e8, e9, e10, e11, e12, e13, e14, e15, e16, e17, e18, e19, e20, e21, e22, e23, e24, w0, w1, w2, w3, w4, w5, w6, w7, w8, w9, w10, w11, w12, w13, w14, w15, w16, w17, w18, w19, w20, w21, w22, w23, w24, look_non, look_bl, look_int, look_str, look_tup, look_lst, look_frz, look_ref, rb_ok, rb_exn, rg_ok, rg_exn, rs_next, rs_ret, rs_exn, op_some, om_some, sg_nm, sg_tp, sg_tp2, sa_nil, sa_cons, t_bl, t_non, t_int, t_tup, t_lst, f_next, f_ret, f_exn, tab1, Bool.not_true, Bool.not_false, b_add, b_sub, c_eq, c_ne, c_lt, c_le, c_gt, c_ge, c_is, c_isnot, i_tup, i_lst, eq_int, eq_bl, cb_isI, cb_tuple, cb_list, cb_lenL, cb_lenT, isN_non, isN_int, isN_tup, isTy, formed, risingD, Bool.false_and]
theorem Lv_mem {n : Nat} {l : List D} (h : Lv n (.tup l)) : ∀ d ∈ l, Lv n d := by
  obtain ⟨m, rfl, _, h2⟩ := h.mem
  exact fun d hd => (h2 d hd).up
theorem flags_len (n : Int) : ∀ (l : List D) (i : Nat), (flags n l i).length = l.length
  | [], _ => rfl
  | d :: l, i => by simp [flags, flags_len n l (i + 1)]
theorem flags_get (n : Int) : ∀ (l : List D) (i j : Nat), (flags n l i)[j]? = (l[j]?).map fun d => formed n ((i + j : Nat) : Int) d
  | [], _, _ => by simp [flags]
  | d :: l, i, 0 => by simp [flags]
  | d :: l, i, j + 1 => by
    have := flags_get n l (i + 1) j
    simp only [flags, List.getElem?_cons_succ, this]
    rw [show i + 1 + j = i + (j + 1) by omega]
/-- what the law finds wrong with a thing -/
theorem s_wrong {t : D} {n : Nat} (h : Lv n t) (hn : n ≤ 60) : callF prg wf (k + 3) 18 [t] th S = .ok (bookFault t) S := by
  rw [call_to (d := d18) (ρ := [some t, none, none, none]) (G := GP) rfl rfl rfl rfl]
  cases h with
  | tup n l h1 h2 =>
    have ty : ∀ l, isTy (.tup l) .tuple = some true := fun _ => rfl
    by_cases q : l.length = 2
    · match l, q, h2 with
      | [a, b], _, h2 =>
        have ha := h2 a (by simp)
        have hb := h2 b (by simp)
        have g2 : (((([a, b] : List D).length : Nat) : Int) == 2) = true := rfl
        cases ha with
        | tup m s s1 s2 =>
          cases hb with
          | tup m l l1 l2 =>
            by_cases p : s.length = l.length
            · have p' : ((s.length : Int) == (l.length : Int)) = true := by simp [p]
              by_cases r1 : 1 ≤ s.length
              · have r1' : (1 : Int) ≤ (s.length : Int) := by omega
                by_cases r2 : s.length ≤ 6
                · have r2' : (s.length : Int) ≤ 6 := by omega
                  have sh : shaped (.tup [.tup s, .tup l]) = true := by simp [shaped, tupOf, p]; omega
                  have hl1 : ∀ x, ev GP (subP prg) (tab prg wf (k + 2)) (.callB .len (.cons (.var 2) .nil)) (k + 2) th [some (.tup [.tup s, .tup l]), x, some (.tup s), some (.tup l)] S = .ok (.int s.length) S := fun x => by simp only [q_cons, q_nil, q_sexpr, q_asg, q_par, q_if, q_for, q_ret, q_raise, q_v, q_int, q_bl, q_non, q_str, q_glob, q_bin, q_neg, q_cmp, q_chain, q_and_, q_or_, q_not, q_ife, q_call, q_callB, q_tup, q_lst, q_cell, q_ix, q_slLo, q_slHi, q_slLH, q_rev, q_append, q_what, q_isX, es_nil, es_cons, ea_one, ea_cons, eo_one, eo_cons, el_nil, el_cons, it_seq, it_enum, sd_tup, sd_lst, e0, e1, e2, e3, e4, e5, e6, e7, e8, e9, e10, e11, e12, e13, e14, e15, e16, e17, e18, e19, e20, e21, e22, e23, e24, w0, w1, w2, w3, w4, w5, w6, w7, w8, w9, w10, w11, w12, w13, w14, w15, w16, w17, w18, w19, w20, w21, w22, w23, w24, look_non, look_bl, look_int, look_str, look_tup, look_lst, look_frz, look_ref, rb_ok, rb_exn, rg_ok, rg_exn, rs_next, rs_ret, rs_exn, op_some, om_some, sg_nm, sg_tp, sg_tp2, sa_nil, sa_cons, t_bl, t_non, t_int, t_tup, t_lst, f_next, f_ret, f_exn, tab1, Bool.not_true, Bool.not_false, b_add, b_sub, c_eq, c_ne, c_lt, c_le, c_gt, c_ge, c_is, c_isnot, i_tup, i_lst, eq_int, eq_bl, cb_isI, cb_tuple, cb_list, cb_lenL, cb_lenT, isN_non, isN_int, isN_tup]
                  have hl2 : ∀ x, ev GP (subP prg) (tab prg wf (k + 2)) (.callB .len (.cons (.var 3) .nil)) (k + 2) th [some (.tup [.tup s, .tup l]), x, some (.tup s), some (.tup l)] S = .ok (.int l.length) S := fun x => by simp only [q_cons, q_nil, q_sexpr, q_asg, q_par, q_if, q_for, q_ret, q_raise, q_v, q_int, q_bl, q_non, q_str, q_glob, q_bin, q_neg, q_cmp, q_chain, q_and_, q_or_, q_not, q_ife, q_call, q_callB, q_tup, q_lst, q_cell, q_ix, q_slLo, q_slHi, q_slLH, q_rev, q_append, q_what, q_isX, es_nil, es_cons, ea_one, ea_cons, eo_one, eo_cons, el_nil, el_cons, it_seq, it_enum, sd_tup, sd_lst, e0, e1, e2, e3, e4, e5, e6, e7, e8, e9, e10, e11, e12, e13, e14, e15, e16, e17, e18, e19, e20, e21, e22, e23, e24, w0, w1, w2, w3, w4, w5, w6, w7, w8, w9, w10, w11, w12, w13, w14, w15, w16, w17, w18, w19, w20, w21, w22, w23, w24, look_non, look_bl, look_int, look_str, look_tup, look_lst, look_frz, look_ref, rb_ok, rb_exn, rg_ok, rg_exn, rs_next, rs_ret, rs_exn, op_some, om_some, sg_nm, sg_tp, sg_tp2, sa_nil, sa_cons, t_bl, t_non, t_int, t_tup, t_lst, f_next, f_ret, f_exn, tab1, Bool.not_true, Bool.not_false, b_add, b_sub, c_eq, c_ne, c_lt, c_le, c_gt, c_ge, c_is, c_isnot, i_tup, i_lst, eq_int, eq_bl, cb_isI, cb_tuple, cb_list, cb_lenL, cb_lenT, isN_non, isN_int, isN_tup]
                  have i1 := it_range1 (hl1 none) (by omega)
                  have i2 := fun x => it_range1 (hl2 x) (by omega)
                  generalize hB1 : (Sms.cons (.if_ (.not (.call 16 (.cons (.ix (.var 2) (.var 1)) (.cons (.int 1) (.cons (.int 60) .nil))))) (.cons (.ret (.tup (.cons (.int 0) (.cons (.var 1) .nil)))) (.nil)) (.nil)) (.nil)) = B1
                  generalize hB2 : (Sms.cons (.if_ (.not (.call 17 (.cons (.ix (.var 3) (.var 1)) (.cons (.var 1) (.cons (.callB .len (.cons (.var 3) .nil)) .nil))))) (.cons (.ret (.tup (.cons (.int 1) (.cons (.var 1) .nil)))) (.nil)) (.nil)) (.nil)) = B2
                  have f1 := forL_scan (tg := .nm 1) (B := exss GP (subP prg) (tab prg wf (k + 2)) wf B1 (k + 2) th) (I := fun ρ => ∃ x, ρ = [some (.tup [.tup s, .tup l]), x, some (.tup s), some (.tup l)]) (S := S) (ok := fun d => match d with
                    | .int i => numFrom 1 60 (s.getD i.toNat .non)
                    | _ => true) (r := fun d => .tup [.int 0, d]) (rangeD 0 s.length) _ ⟨none, rfl⟩ fun d hd ρ hρ => by
                      obtain ⟨x, rfl⟩ := hρ
                      obtain ⟨i, rfl, i1, i2⟩ := rangeD_mem hd
                      obtain ⟨j, rfl⟩ : ∃ j : Nat, i = (j : Int) := ⟨i.toNat, by omega⟩
                      have hj : j < s.length := by omega
                      refine ⟨_, rfl, ?_⟩
                      have x1 : index (.tup s) (.int (j : Int)) S = some s[j] := index_nat rfl hj
                      have hlv := s2 s[j] (List.getElem_mem ..)
                      have e := s_whole (wf := wf) (k := k + 1) (th := noThk) (S := S) hlv.pd 1 60
                      have gd : s.getD j .non = s[j] := by simp [hj]
                      simp only [Int.toNat_natCast, gd]
                      subst hB1
                      constructor
                      · intro z
                        rw [z] at e
                        exact ⟨_, by simp only [q_cons, q_nil, q_sexpr, q_asg, q_par, q_if, q_for, q_ret, q_raise, q_v, q_int, q_bl, q_non, q_str, q_glob, q_bin, q_neg, q_cmp, q_chain, q_and_, q_or_, q_not, q_ife, q_call, q_callB, q_tup, q_lst, q_cell, q_ix, q_slLo, q_slHi, q_slLH, q_rev, q_append, q_what, q_isX, es_nil, es_cons, ea_one, ea_cons, eo_one, eo_cons, el_nil, el_cons, it_seq, it_enum, sd_tup, sd_lst, e0, e1, e2, e3, e4, e5, e6, e7, e8, e9, e10, e11, e12, e13, e14, e15, e16, e17, e18, e19, e20, e21, e22, e23, e24, w0, w1, w2, w3, w4, w5, w6, w7, w8, w9, w10, w11, w12, w13, w14, w15, w16, w17, w18, w19, w20, w21, w22, w23, w24, look_non, look_bl, look_int, look_str, look_tup, look_lst, look_frz, look_ref, rb_ok, rb_exn, rg_ok, rg_exn, rs_next, rs_ret, rs_exn, op_some, om_some, sg_nm, sg_tp, sg_tp2, sa_nil, sa_cons, t_bl, t_non, t_int, t_tup, t_lst, f_next, f_ret, f_exn, tab1, Bool.not_true, Bool.not_false, b_add, b_sub, c_eq, c_ne, c_lt, c_le, c_gt, c_ge, c_is, c_isnot, i_tup, i_lst, eq_int, eq_bl, cb_isI, cb_tuple, cb_list, cb_lenL, cb_lenT, isN_non, isN_int, isN_tup, x1, e]; rfl, _, rfl⟩
                      · intro z
                        rw [z] at e
                        simp only [List.set_cons_succ, List.set_cons_zero, q_cons, q_nil, q_sexpr, q_asg, q_par, q_if, q_for, q_ret, q_raise, q_v, q_int, q_bl, q_non, q_str, q_glob, q_bin, q_neg, q_cmp, q_chain, q_and_, q_or_, q_not, q_ife, q_call, q_callB, q_tup, q_lst, q_cell, q_ix, q_slLo, q_slHi, q_slLH, q_rev, q_append, q_what, q_isX, es_nil, es_cons, ea_one, ea_cons, eo_one, eo_cons, el_nil, el_cons, it_seq, it_enum, sd_tup, sd_lst, e0, e1, e2, e3, e4, e5, e6, e7, e8, e9, e10, e11, e12, e13, e14, e15, e16, e17, e18, e19, e20, e21, e22, e23, e24, w0, w1, w2, w3, w4, w5, w6, w7, w8, w9, w10, w11, w12, w13, w14, w15, w16, w17, w18, w19, w20, w21, w22, w23, w24, look_non, look_bl, look_int, look_str, look_tup, look_lst, look_frz, look_ref, rb_ok, rb_exn, rg_ok, rg_exn, rs_next, rs_ret, rs_exn, op_some, om_some, sg_nm, sg_tp, sg_tp2, sa_nil, sa_cons, t_bl, t_non, t_int, t_tup, t_lst, f_next, f_ret, f_exn, tab1, Bool.not_true, Bool.not_false, b_add, b_sub, c_eq, c_ne, c_lt, c_le, c_gt, c_ge, c_is, c_isnot, i_tup, i_lst, eq_int, eq_bl, cb_isI, cb_tuple, cb_list, cb_lenL, cb_lenT, isN_non, isN_int, isN_tup, x1, e]
                  have f2 := fun x => forL_scan (tg := .nm 1) (B := exss GP (subP prg) (tab prg wf (k + 2)) wf B2 (k + 2) th) (I := fun ρ => ∃ x, ρ = [some (.tup [.tup s, .tup l]), x, some (.tup s), some (.tup l)]) (S := S) (ok := fun d => match d with
                    | .int i => formed l.length i (l.getD i.toNat .non)
                    | _ => true) (r := fun d => .tup [.int 1, d]) (rangeD 0 l.length) [some (.tup [.tup s, .tup l]), x, some (.tup s), some (.tup l)] ⟨x, rfl⟩ fun d hd ρ hρ => by
                      obtain ⟨x, rfl⟩ := hρ
                      obtain ⟨i, rfl, i1, i2⟩ := rangeD_mem hd
                      obtain ⟨j, rfl⟩ : ∃ j : Nat, i = (j : Int) := ⟨i.toNat, by omega⟩
                      have hj : j < l.length := by omega
                      refine ⟨_, rfl, ?_⟩
                      have x1 : index (.tup l) (.int (j : Int)) S = some l[j] := index_nat rfl hj
                      have hlv := l2 l[j] (List.getElem_mem ..)
                      have e := s_arelinks (wf := wf) (k := k) (th := noThk) (S := S) (n := l.length) (part := j) hlv (by omega)
                      have gd : l.getD j .non = l[j] := by simp [hj]
                      simp only [Int.toNat_natCast, gd]
                      subst hB2
                      constructor
                      · intro z
                        rw [z] at e
                        exact ⟨_, by simp only [List.set_cons_succ, List.set_cons_zero, q_cons, q_nil, q_sexpr, q_asg, q_par, q_if, q_for, q_ret, q_raise, q_v, q_int, q_bl, q_non, q_str, q_glob, q_bin, q_neg, q_cmp, q_chain, q_and_, q_or_, q_not, q_ife, q_call, q_callB, q_tup, q_lst, q_cell, q_ix, q_slLo, q_slHi, q_slLH, q_rev, q_append, q_what, q_isX, es_nil, es_cons, ea_one, ea_cons, eo_one, eo_cons, el_nil, el_cons, it_seq, it_enum, sd_tup, sd_lst, e0, e1, e2, e3, e4, e5, e6, e7, e8, e9, e10, e11, e12, e13, e14, e15, e16, e17, e18, e19, e20, e21, e22, e23, e24, w0, w1, w2, w3, w4, w5, w6, w7, w8, w9, w10, w11, w12, w13, w14, w15, w16, w17, w18, w19, w20, w21, w22, w23, w24, look_non, look_bl, look_int, look_str, look_tup, look_lst, look_frz, look_ref, rb_ok, rb_exn, rg_ok, rg_exn, rs_next, rs_ret, rs_exn, op_some, om_some, sg_nm, sg_tp, sg_tp2, sa_nil, sa_cons, t_bl, t_non, t_int, t_tup, t_lst, f_next, f_ret, f_exn, tab1, Bool.not_true, Bool.not_false, b_add, b_sub, c_eq, c_ne, c_lt, c_le, c_gt, c_ge, c_is, c_isnot, i_tup, i_lst, eq_int, eq_bl, cb_isI, cb_tuple, cb_list, cb_lenL, cb_lenT, isN_non, isN_int, isN_tup, x1, e]; rfl, _, rfl⟩
                      · intro z
                        rw [z] at e
                        simp only [List.set_cons_succ, List.set_cons_zero, q_cons, q_nil, q_sexpr, q_asg, q_par, q_if, q_for, q_ret, q_raise, q_v, q_int, q_bl, q_non, q_str, q_glob, q_bin, q_neg, q_cmp, q_chain, q_and_, q_or_, q_not, q_ife, q_call, q_callB, q_tup, q_lst, q_cell, q_ix, q_slLo, q_slHi, q_slLH, q_rev, q_append, q_what, q_isX, es_nil, es_cons, ea_one, ea_cons, eo_one, eo_cons, el_nil, el_cons, it_seq, it_enum, sd_tup, sd_lst, e0, e1, e2, e3, e4, e5, e6, e7, e8, e9, e10, e11, e12, e13, e14, e15, e16, e17, e18, e19, e20, e21, e22, e23, e24, w0, w1, w2, w3, w4, w5, w6, w7, w8, w9, w10, w11, w12, w13, w14, w15, w16, w17, w18, w19, w20, w21, w22, w23, w24, look_non, look_bl, look_int, look_str, look_tup, look_lst, look_frz, look_ref, rb_ok, rb_exn, rg_ok, rg_exn, rs_next, rs_ret, rs_exn, op_some, om_some, sg_nm, sg_tp, sg_tp2, sa_nil, sa_cons, t_bl, t_non, t_int, t_tup, t_lst, f_next, f_ret, f_exn, tab1, Bool.not_true, Bool.not_false, b_add, b_sub, c_eq, c_ne, c_lt, c_le, c_gt, c_ge, c_is, c_isnot, i_tup, i_lst, eq_int, eq_bl, cb_isI, cb_tuple, cb_list, cb_lenL, cb_lenT, isN_non, isN_int, isN_tup, x1, e]
                  have k1 := find_firstF (s.map (numFrom 1 60)) 0 (fun d => match d with
                    | .int i => numFrom 1 60 (s.getD i.toNat .non)
                    | _ => true) fun j b hb => by
                      rw [List.getElem?_map] at hb
                      simp only [Nat.zero_add, Int.toNat_natCast, List.getD_eq_getElem?_getD]
                      cases hh : s[j]? with
                      | none => rw [hh] at hb; cases hb
                      | some d =>
                        rw [hh] at hb
                        simpa using hb
                  have k2 := find_firstF (flags l.length l 0) 0 (fun d => match d with
                    | .int i => formed l.length i (l.getD i.toNat .non)
                    | _ => true) fun j b hb => by
                      rw [flags_get] at hb
                      simp only [Nat.zero_add, Int.toNat_natCast, List.getD_eq_getElem?_getD] at hb ⊢
                      cases hh : l[j]? with
                      | none => rw [hh] at hb; cases hb
                      | some d =>
                        rw [hh] at hb
                        simpa using hb
                  rw [List.length_map] at k1
                  rw [flags_len] at k2
                  rw [bookFault_eq sh, show flags (s.length : Int) l 0 = flags (l.length : Int) l 0 by rw [p]]
                  subst hB1 hB2
                  rcases firstF_or (s.map (numFrom 1 60)) 0 with z1 | ⟨j1, z1⟩
                  · rw [z1] at k1 ⊢
                    obtain ⟨ρ1, g1, x1, rfl⟩ := f1.2 k1
                    rcases firstF_or (flags l.length l 0) 0 with z2 | ⟨j2, z2⟩
                    · rw [z2] at k2 ⊢
                      obtain ⟨ρ2, g3, x2, rfl⟩ := (f2 x1).2 k2
                      rw [ft_non]
                      simp only [d18, q_cons, q_nil, q_sexpr, q_asg, q_par, q_if, q_for, q_ret, q_raise, q_v, q_int, q_bl, q_non, q_str, q_glob, q_bin, q_neg, q_cmp, q_chain, q_and_, q_or_, q_not, q_ife, q_call, q_callB, q_tup, q_lst, q_cell, q_ix, q_slLo, q_slHi, q_slLH, q_rev, q_append, q_what, q_isX, es_nil, es_cons, ea_one, ea_cons, eo_one, eo_cons, el_nil, el_cons, it_seq, it_enum, sd_tup, sd_lst, e0, e1, e2, e3, e4, e5, e6, e7, e8, e9, e10, e11, e12, e13, e14, e15, e16, e17, e18, e19, e20, e21, e22, e23, e24, w0, w1, w2, w3, w4, w5, w6, w7, w8, w9, w10, w11, w12, w13, w14, w15, w16, w17, w18, w19, w20, w21, w22, w23, w24, look_non, look_bl, look_int, look_str, look_tup, look_lst, look_frz, look_ref, rb_ok, rb_exn, rg_ok, rg_exn, rs_next, rs_ret, rs_exn, op_some, om_some, sg_nm, sg_tp, sg_tp2, sa_nil, sa_cons, t_bl, t_non, t_int, t_tup, t_lst, f_next, f_ret, f_exn, tab1, Bool.not_true, Bool.not_false, b_add, b_sub, c_eq, c_ne, c_lt, c_le, c_gt, c_ge, c_is, c_isnot, i_tup, i_lst, eq_int, eq_bl, cb_isI, cb_tuple, cb_list, cb_lenL, cb_lenT, isN_non, isN_int, isN_tup, ty, g2, p', decide_eq_true r1', decide_eq_true r2', i1, i2, g1, g3, bne, Bool.not_true]
                    · rw [z2] at k2 ⊢
                      have g3 := (f2 x1).1 _ k2
                      rw [ft_one]
                      simp only [d18, q_cons, q_nil, q_sexpr, q_asg, q_par, q_if, q_for, q_ret, q_raise, q_v, q_int, q_bl, q_non, q_str, q_glob, q_bin, q_neg, q_cmp, q_chain, q_and_, q_or_, q_not, q_ife, q_call, q_callB, q_tup, q_lst, q_cell, q_ix, q_slLo, q_slHi, q_slLH, q_rev, q_append, q_what, q_isX, es_nil, es_cons, ea_one, ea_cons, eo_one, eo_cons, el_nil, el_cons, it_seq, it_enum, sd_tup, sd_lst, e0, e1, e2, e3, e4, e5, e6, e7, e8, e9, e10, e11, e12, e13, e14, e15, e16, e17, e18, e19, e20, e21, e22, e23, e24, w0, w1, w2, w3, w4, w5, w6, w7, w8, w9, w10, w11, w12, w13, w14, w15, w16, w17, w18, w19, w20, w21, w22, w23, w24, look_non, look_bl, look_int, look_str, look_tup, look_lst, look_frz, look_ref, rb_ok, rb_exn, rg_ok, rg_exn, rs_next, rs_ret, rs_exn, op_some, om_some, sg_nm, sg_tp, sg_tp2, sa_nil, sa_cons, t_bl, t_non, t_int, t_tup, t_lst, f_next, f_ret, f_exn, tab1, Bool.not_true, Bool.not_false, b_add, b_sub, c_eq, c_ne, c_lt, c_le, c_gt, c_ge, c_is, c_isnot, i_tup, i_lst, eq_int, eq_bl, cb_isI, cb_tuple, cb_list, cb_lenL, cb_lenT, isN_non, isN_int, isN_tup, ty, g2, p', decide_eq_true r1', decide_eq_true r2', i1, i2, g1, g3, bne, Bool.not_true]
                  · rw [z1] at k1 ⊢
                    have g1 := f1.1 _ k1
                    rw [ft_two]
                    simp only [d18, q_cons, q_nil, q_sexpr, q_asg, q_par, q_if, q_for, q_ret, q_raise, q_v, q_int, q_bl, q_non, q_str, q_glob, q_bin, q_neg, q_cmp, q_chain, q_and_, q_or_, q_not, q_ife, q_call, q_callB, q_tup, q_lst, q_cell, q_ix, q_slLo, q_slHi, q_slLH, q_rev, q_append, q_what, q_isX, es_nil, es_cons, ea_one, ea_cons, eo_one, eo_cons, el_nil, el_cons, it_seq, it_enum, sd_tup, sd_lst, e0, e1, e2, e3, e4, e5, e6, e7, e8, e9, e10, e11, e12, e13, e14, e15, e16, e17, e18, e19, e20, e21, e22, e23, e24, w0, w1, w2, w3, w4, w5, w6, w7, w8, w9, w10, w11, w12, w13, w14, w15, w16, w17, w18, w19, w20, w21, w22, w23, w24, look_non, look_bl, look_int, look_str, look_tup, look_lst, look_frz, look_ref, rb_ok, rb_exn, rg_ok, rg_exn, rs_next, rs_ret, rs_exn, op_some, om_some, sg_nm, sg_tp, sg_tp2, sa_nil, sa_cons, t_bl, t_non, t_int, t_tup, t_lst, f_next, f_ret, f_exn, tab1, Bool.not_true, Bool.not_false, b_add, b_sub, c_eq, c_ne, c_lt, c_le, c_gt, c_ge, c_is, c_isnot, i_tup, i_lst, eq_int, eq_bl, cb_isI, cb_tuple, cb_list, cb_lenL, cb_lenT, isN_non, isN_int, isN_tup, ty, g2, p', decide_eq_true r1', decide_eq_true r2', i1, g1, bne, Bool.not_true]
                · have r2' : ¬ (s.length : Int) ≤ 6 := by omega
                  have sh : bookFault (.tup [.tup s, .tup l]) = .int (-1) := by simp [bookFault, shaped, tupOf]; omega
                  rw [sh]
                  simp only [d18, q_cons, q_nil, q_sexpr, q_asg, q_par, q_if, q_for, q_ret, q_raise, q_v, q_int, q_bl, q_non, q_str, q_glob, q_bin, q_neg, q_cmp, q_chain, q_and_, q_or_, q_not, q_ife, q_call, q_callB, q_tup, q_lst, q_cell, q_ix, q_slLo, q_slHi, q_slLH, q_rev, q_append, q_what, q_isX, es_nil, es_cons, ea_one, ea_cons, eo_one, eo_cons, el_nil, el_cons, it_seq, it_enum, sd_tup, sd_lst, e0, e1, e2, e3, e4, e5, e6, e7, e8, e9, e10, e11, e12, e13, e14, e15, e16, e17, e18, e19, e20, e21, e22, e23, e24, w0, w1, w2, w3, w4, w5, w6, w7, w8, w9, w10, w11, w12, w13, w14, w15, w16, w17, w18, w19, w20, w21, w22, w23, w24, look_non, look_bl, look_int, look_str, look_tup, look_lst, look_frz, look_ref, rb_ok, rb_exn, rg_ok, rg_exn, rs_next, rs_ret, rs_exn, op_some, om_some, sg_nm, sg_tp, sg_tp2, sa_nil, sa_cons, t_bl, t_non, t_int, t_tup, t_lst, f_next, f_ret, f_exn, tab1, Bool.not_true, Bool.not_false, b_add, b_sub, c_eq, c_ne, c_lt, c_le, c_gt, c_ge, c_is, c_isnot, i_tup, i_lst, eq_int, eq_bl, cb_isI, cb_tuple, cb_list, cb_lenL, cb_lenT, isN_non, isN_int, isN_tup, ty, g2, p', decide_eq_true r1', decide_eq_false r2']
              · have r1' : ¬ (1 : Int) ≤ (s.length : Int) := by omega
                have sh : bookFault (.tup [.tup s, .tup l]) = .int (-1) := by simp [bookFault, shaped, tupOf]; omega
                rw [sh]
                simp only [d18, q_cons, q_nil, q_sexpr, q_asg, q_par, q_if, q_for, q_ret, q_raise, q_v, q_int, q_bl, q_non, q_str, q_glob, q_bin, q_neg, q_cmp, q_chain, q_and_, q_or_, q_not, q_ife, q_call, q_callB, q_tup, q_lst, q_cell, q_ix, q_slLo, q_slHi, q_slLH, q_rev, q_append, q_what, q_isX, es_nil, es_cons, ea_one, ea_cons, eo_one, eo_cons, el_nil, el_cons, it_seq, it_enum, sd_tup, sd_lst, e0, e1, e2, e3, e4, e5, e6, e7, e8, e9, e10, e11, e12, e13, e14, e15, e16, e17, e18, e19, e20, e21, e22, e23, e24, w0, w1, w2, w3, w4, w5, w6, w7, w8, w9, w10, w11, w12, w13, w14, w15, w16, w17, w18, w19, w20, w21, w22, w23, w24, look_non, look_bl, look_int, look_str, look_tup, look_lst, look_frz, look_ref, rb_ok, rb_exn, rg_ok, rg_exn, rs_next, rs_ret, rs_exn, op_some, om_some, sg_nm, sg_tp, sg_tp2, sa_nil, sa_cons, t_bl, t_non, t_int, t_tup, t_lst, f_next, f_ret, f_exn, tab1, Bool.not_true, Bool.not_false, b_add, b_sub, c_eq, c_ne, c_lt, c_le, c_gt, c_ge, c_is, c_isnot, i_tup, i_lst, eq_int, eq_bl, cb_isI, cb_tuple, cb_list, cb_lenL, cb_lenT, isN_non, isN_int, isN_tup, ty, g2, p', decide_eq_false r1']
            · have p' : ((s.length : Int) == (l.length : Int)) = false := by simp; omega
              have sh : bookFault (.tup [.tup s, .tup l]) = .int (-1) := by simp [bookFault, shaped, tupOf]; omega
              rw [sh]
              simp only [d18, q_cons, q_nil, q_sexpr, q_asg, q_par, q_if, q_for, q_ret, q_raise, q_v, q_int, q_bl, q_non, q_str, q_glob, q_bin, q_neg, q_cmp, q_chain, q_and_, q_or_, q_not, q_ife, q_call, q_callB, q_tup, q_lst, q_cell, q_ix, q_slLo, q_slHi, q_slLH, q_rev, q_append, q_what, q_isX, es_nil, es_cons, ea_one, ea_cons, eo_one, eo_cons, el_nil, el_cons, it_seq, it_enum, sd_tup, sd_lst, e0, e1, e2, e3, e4, e5, e6, e7, e8, e9, e10, e11, e12, e13, e14, e15, e16, e17, e18, e19, e20, e21, e22, e23, e24, w0, w1, w2, w3, w4, w5, w6, w7, w8, w9, w10, w11, w12, w13, w14, w15, w16, w17, w18, w19, w20, w21, w22, w23, w24, look_non, look_bl, look_int, look_str, look_tup, look_lst, look_frz, look_ref, rb_ok, rb_exn, rg_ok, rg_exn, rs_next, rs_ret, rs_exn, op_some, om_some, sg_nm, sg_tp, sg_tp2, sa_nil, sa_cons, t_bl, t_non, t_int, t_tup, t_lst, f_next, f_ret, f_exn, tab1, Bool.not_true, Bool.not_false, b_add, b_sub, c_eq, c_ne, c_lt, c_le, c_gt, c_ge, c_is, c_isnot, i_tup, i_lst, eq_int, eq_bl, cb_isI, cb_tuple, cb_list, cb_lenL, cb_lenT, isN_non, isN_int, isN_tup, ty, g2, p']
          | _ =>
            have sh : ∀ d, (∀ l, d ≠ .tup l) → bookFault (.tup [.tup s, d]) = .int (-1) := fun d hd => by
              cases d <;> simp [bookFault, shaped, tupOf] at *
            rw [sh _ (fun l h => by cases h)]
            simp only [d18, q_cons, q_nil, q_sexpr, q_asg, q_par, q_if, q_for, q_ret, q_raise, q_v, q_int, q_bl, q_non, q_str, q_glob, q_bin, q_neg, q_cmp, q_chain, q_and_, q_or_, q_not, q_ife, q_call, q_callB, q_tup, q_lst, q_cell, q_ix, q_slLo, q_slHi, q_slLH, q_rev, q_append, q_what, q_isX, es_nil, es_cons, ea_one, ea_cons, eo_one, eo_cons, el_nil, el_cons, it_seq, it_enum, sd_tup, sd_lst, e0, e1, e2, e3, e4, e5, e6, e7, e8, e9, e10, e11, e12, e13, e14, e15, e16, e17, e18, e19, e20, e21, e22, e23, e24, w0, w1, w2, w3, w4, w5, w6, w7, w8, w9, w10, w11, w12, w13, w14, w15, w16, w17, w18, w19, w20, w21, w22, w23, w24, look_non, look_bl, look_int, look_str, look_tup, look_lst, look_frz, look_ref, rb_ok, rb_exn, rg_ok, rg_exn, rs_next, rs_ret, rs_exn, op_some, om_some, sg_nm, sg_tp, sg_tp2, sa_nil, sa_cons, t_bl, t_non, t_int, t_tup, t_lst, f_next, f_ret, f_exn, tab1, Bool.not_true, Bool.not_false, b_add, b_sub, c_eq, c_ne, c_lt, c_le, c_gt, c_ge, c_is, c_isnot, i_tup, i_lst, eq_int, eq_bl, cb_isI, cb_tuple, cb_list, cb_lenL, cb_lenT, isN_non, isN_int, isN_tup, isTy, g2]
        | _ =>
          have sh : ∀ d b, (∀ l, d ≠ .tup l) → bookFault (.tup [d, b]) = .int (-1) := fun d b hd => by
            cases d <;> simp [bookFault, shaped] at *
          rw [sh _ _ (fun l h => by cases h)]
          simp only [d18, q_cons, q_nil, q_sexpr, q_asg, q_par, q_if, q_for, q_ret, q_raise, q_v, q_int, q_bl, q_non, q_str, q_glob, q_bin, q_neg, q_cmp, q_chain, q_and_, q_or_, q_not, q_ife, q_call, q_callB, q_tup, q_lst, q_cell, q_ix, q_slLo, q_slHi, q_slLH, q_rev, q_append, q_what, q_isX, es_nil, es_cons, ea_one, ea_cons, eo_one, eo_cons, el_nil, el_cons, it_seq, it_enum, sd_tup, sd_lst, e0, e1, e2, e3, e4, e5, e6, e7, e8, e9, e10, e11, e12, e13, e14, e15, e16, e17, e18, e19, e20, e21, e22, e23, e24, w0, w1, w2, w3, w4, w5, w6, w7, w8, w9, w10, w11, w12, w13, w14, w15, w16, w17, w18, w19, w20, w21, w22, w23, w24, look_non, look_bl, look_int, look_str, look_tup, look_lst, look_frz, look_ref, rb_ok, rb_exn, rg_ok, rg_exn, rs_next, rs_ret, rs_exn, op_some, om_some, sg_nm, sg_tp, sg_tp2, sa_nil, sa_cons, t_bl, t_non, t_int, t_tup, t_lst, f_next, f_ret, f_exn, tab1, Bool.not_true, Bool.not_false, b_add, b_sub, c_eq, c_ne, c_lt, c_le, c_gt, c_ge, c_is, c_isnot, i_tup, i_lst, eq_int, eq_bl, cb_isI, cb_tuple, cb_list, cb_lenL, cb_lenT, isN_non, isN_int, isN_tup, isTy, g2]
    · have q' : ((l.length : Int) == 2) = false := by
        simp
        omega
      have sh : bookFault (.tup l) = .int (-1) := by
        have : shaped (.tup l) = false := by
          unfold shaped
          split
          · rename_i e
            injection e with e
            rw [e] at q
            exact absurd rfl q
          · rfl
        simp [bookFault, this]
      rw [sh]
      simp only [d18, q_cons, q_nil, q_sexpr, q_asg, q_par, q_if, q_for, q_ret, q_raise, q_v, q_int, q_bl, q_non, q_str, q_glob, q_bin, q_neg, q_cmp, q_chain, q_and_, q_or_, q_not, q_ife, q_call, q_callB, q_tup, q_lst, q_cell, q_ix, q_slLo, q_slHi, q_slLH, q_rev, q_append, q_what, q_isX, es_nil, es_cons, ea_one, ea_cons, eo_one, eo_cons, el_nil, el_cons, it_seq, it_enum, sd_tup, sd_lst, e0, e1, e2, e3, e4, e5, e6, e7, e8, e9, e10, e11, e12, e13, e14, e15, e16, e17, e18, e19, e20, e21, e22, e23, e24, w0, w1, w2, w3, w4, w5, w6, w7, w8, w9, w10, w11, w12, w13, w14, w15, w16, w17, w18, w19, w20, w21, w22, w23, w24, look_non, look_bl, look_int, look_str, look_tup, look_lst, look_frz, look_ref, rb_ok, rb_exn, rg_ok, rg_exn, rs_next, rs_ret, rs_exn, op_some, om_some, sg_nm, sg_tp, sg_tp2, sa_nil, sa_cons, t_bl, t_non, t_int, t_tup, t_lst, f_next, f_ret, f_exn, tab1, Bool.not_true, Bool.not_false, b_add, b_sub, c_eq, c_ne, c_lt, c_le, c_gt, c_ge, c_is, c_isnot, i_tup, i_lst, eq_int, eq_bl, cb_isI, cb_tuple, cb_list, cb_lenL, cb_lenT, isN_non, isN_int, isN_tup, ty, q']
  | _ => simp only [d18, q_cons, q_nil, q_sexpr, q_asg, q_par, q_if, q_for, q_ret, q_raise, q_v, q_int, q_bl, q_non, q_str, q_glob, q_bin, q_neg, q_cmp, q_chain, q_and_, q_or_, q_not, q_ife, q_call, q_callB, q_tup, q_lst, q_cell, q_ix, q_slLo, q_slHi, q_slLH, q_rev, q_append, q_what, q_isX, es_nil, es_cons, ea_one, ea_cons, eo_one, eo_cons, el_nil, el_cons, it_seq, it_enum, sd_tup, sd_lst, e0, e1, e2, e3, e4, e5, e6, e7, e8, e9, e10, e11, e12, e13, e14, e15, e16, e17, e18, e19, e20, e21, e22, e23, e24, w0, w1, w2, w3, w4, w5, w6, w7, w8, w9, w10, w11, w12, w13, w14, w15, w16, w17, w18, w19, w20, w21, w22, w23, w24, look_non, look_bl, look_int, look_str, look_tup, look_lst, look_frz, look_ref, rb_ok, rb_exn, rg_ok, rg_exn, rs_next, rs_ret, rs_exn, op_some, om_some, sg_nm, sg_tp, sg_tp2, sa_nil, sa_cons, t_bl, t_non, t_int, t_tup, t_lst, f_next, f_ret, f_exn, tab1, Bool.not_true, Bool.not_false, b_add, b_sub, c_eq, c_ne, c_lt, c_le, c_gt, c_ge, c_is, c_isnot, i_tup, i_lst, eq_int, eq_bl, cb_isI, cb_tuple, cb_list, cb_lenL, cb_lenT, isN_non, isN_int, isN_tup, isTy, q_neg, bookFault, shaped, Bool.false_eq_true, if_false]
end
end BhK00

set_option Elab.async false
set_option linter.all false
set_option maxRecDepth 100000
set_option maxHeartbeats 1000000
namespace BhK00
open Bh
section
variable {wf k : Nat} {th : Thk} {S : Sto}
def inRow (i : Int) (r : List Int) (a : Int) : Bool := (a == i) || (r.map D.int).any fun y => eqF y (.int a)
/-- links are drawn -/
theorem s_drawnlinks {n many : Nat} (h : Wl n S) (h1 : 1 ≤ many) (h2 : many ≤ 6) : ∃ l S', callF prg wf (k + 2) 15 [.ref n, .int many] th S = .ok (dLinks l) S' ∧ GoodL many l ∧ Up n S S' := by
  have hn := h.lt
  rw [call_to (d := d15) (ρ := [some (.ref n), some (.int many), none, none, none, none, none, none]) (G := GP) rfl rfl rfl rfl]
  have u0 := h.app (.lst [])
  obtain ⟨c, S1, t1, _, _, u1⟩ := s_take (wf := wf) (k := k) (th := noThk) (top := (many : Int)) u0.src (by omega) (by omega)
  obtain ⟨v, S2, t2, _, _, u2⟩ := s_take (wf := wf) (k := k) (th := noThk) (top := (4 : Int)) u1.src (by omega) (by omega)
  have hp0 : S2[S.length]? = some (.lst []) := u2.keep (u1.keep app_last (by omega)) (by omega)
  have us : Up n S S2 := (u0.trans u1).trans u2
  obtain ⟨b, hb⟩ : ∃ b : Bool, (v == 0) = b := ⟨_, rfl⟩
  generalize hB : (Sms.cons (.asg (.nm 6) (.ife (.var 2) (.lst (.cons (.var 5) .nil)) (.comp false (.var 7) (.nm 7) (.range1 (.var 1)) (.cons (.cmp .eq (.call 12 (.cons (.var 0) (.cons (.int 3) .nil))) (.int 0)) .nil)))) (.cons (.expr (.append (.var 4) (.callB .tuple (.cons (.comp false (.var 7) (.nm 7) (.range1 (.var 1)) (.cons (.or_ (.cons (.cmp .eq (.var 7) (.var 3)) (.cons (.cmp .isin (.var 7) (.var 6)) .nil))) .nil)) .nil)))) (.nil))) = B
  have lp := forL_inv (tg := .nm 3) (B := exss GP (subP prg) (tab prg wf (k + 1)) wf B (k + 1) th) (I := fun j ρ S' => ∃ x y rows, ρ = [some (.ref n), some (.int many), some (.bl b), x, some (.ref S.length), some (.int c), y, none] ∧ Up n S S' ∧ S'[S.length]? = some (.lst (rows.map dRow)) ∧ rows.length = j ∧ ∀ i r, rows[i]? = some r → RowOk many i r)
    (rangeD 0 many) 0 [some (.ref n), some (.int many), some (.bl b), none, some (.ref S.length), some (.int c), none, none] S2 ⟨none, none, [], rfl, us, hp0, rfl, fun i r q => by simp at q⟩ fun j d ρ Sx hd hI => by
      obtain ⟨x, y, rows, rfl, ux, hx, hl, hr⟩ := hI
      have hj : j < many := by
        have := (List.getElem?_eq_some_iff.mp hd).1
        rwa [rangeD_len] at this
      rw [rangeD_get, if_pos hj] at hd
      injection hd with hd
      subst hd
      rw [Int.zero_add]
      have it : ∀ y Sq, evIt GP (subP prg) (tab prg wf (k + 1)) (.range1 (.var 1)) (k + 1) th [some (.ref n), some (.int many), some (.bl b), some (.int j), some (.ref S.length), some (.int c), y, none] Sq = .ok (rangeD 0 many) Sq := fun y Sq => it_range1 (by simp only [q_cons, q_nil, q_sexpr, q_asg, q_par, q_if, q_for, q_ret, q_raise, q_v, q_int, q_bl, q_non, q_str, q_glob, q_bin, q_neg, q_cmp, q_chain, q_and_, q_or_, q_not, q_ife, q_call, q_callB, q_tup, q_lst, q_cell, q_ix, q_slLo, q_slHi, q_slLH, q_rev, q_append, q_what, q_isX, es_nil, es_cons, ea_one, ea_cons, eo_one, eo_cons, el_nil, el_cons, it_seq, it_enum, sd_tup, sd_lst, e0, e1, e2, e3, e4, e5, e6, e7, e8, e9, e10, e11, e12, e13, e14, e15, e16, e17, e18, e19, e20, e21, e22, e23, e24, w0, w1, w2, w3, w4, w5, w6, w7, w8, w9, w10, w11, w12, w13, w14, w15, w16, w17, w18, w19, w20, w21, w22, w23, w24, look_non, look_bl, look_int, look_str, look_tup, look_lst, look_frz, look_ref, rb_ok, rb_exn, rg_ok, rg_exn, rs_next, rs_ret, rs_exn, op_some, om_some, sg_nm, sg_tp, sg_tp2, sa_nil, sa_cons, t_bl, t_non, t_int, t_tup, t_lst, f_next, f_ret, f_exn, tab1, Bool.not_true, Bool.not_false, b_add, b_sub, c_eq, c_ne, c_lt, c_le, c_gt, c_ge, c_is, c_isnot, i_tup, i_lst, eq_int, eq_bl, cb_isI, cb_tuple, cb_list, cb_lenL, cb_lenT, isN_non, isN_int, isN_tup]) (by omega)
      obtain ⟨r, S3, m1, u3⟩ : ∃ (r : List Int) (S3 : Sto), ev GP (subP prg) (tab prg wf (k + 1)) (.ife (.var 2) (.lst (.cons (.var 5) .nil)) (.comp false (.var 7) (.nm 7) (.range1 (.var 1)) (.cons (.cmp .eq (.call 12 (.cons (.var 0) (.cons (.int 3) .nil))) (.int 0)) .nil))) (k + 1) th [some (.ref n), some (.int many), some (.bl b), some (.int j), some (.ref S.length), some (.int c), y, none] Sx = .ok (.lst (r.map .int)) S3 ∧ Up n Sx S3 := by
        cases b with
        | true => exact ⟨[c], Sx, by simp only [q_cons, q_nil, q_sexpr, q_asg, q_par, q_if, q_for, q_ret, q_raise, q_v, q_int, q_bl, q_non, q_str, q_glob, q_bin, q_neg, q_cmp, q_chain, q_and_, q_or_, q_not, q_ife, q_call, q_callB, q_tup, q_lst, q_cell, q_ix, q_slLo, q_slHi, q_slLH, q_rev, q_append, q_what, q_isX, es_nil, es_cons, ea_one, ea_cons, eo_one, eo_cons, el_nil, el_cons, it_seq, it_enum, sd_tup, sd_lst, e0, e1, e2, e3, e4, e5, e6, e7, e8, e9, e10, e11, e12, e13, e14, e15, e16, e17, e18, e19, e20, e21, e22, e23, e24, w0, w1, w2, w3, w4, w5, w6, w7, w8, w9, w10, w11, w12, w13, w14, w15, w16, w17, w18, w19, w20, w21, w22, w23, w24, look_non, look_bl, look_int, look_str, look_tup, look_lst, look_frz, look_ref, rb_ok, rb_exn, rg_ok, rg_exn, rs_next, rs_ret, rs_exn, op_some, om_some, sg_nm, sg_tp, sg_tp2, sa_nil, sa_cons, t_bl, t_non, t_int, t_tup, t_lst, f_next, f_ret, f_exn, tab1, Bool.not_true, Bool.not_false, b_add, b_sub, c_eq, c_ne, c_lt, c_le, c_gt, c_ge, c_is, c_isnot, i_tup, i_lst, eq_int, eq_bl, cb_isI, cb_tuple, cb_list, cb_lenL, cb_lenT, isN_non, isN_int, isN_tup]; rfl, Up.refl ux.src⟩
        | false =>
          obtain ⟨xs, S3, g1, g2, _, g4⟩ := q_comp_some (G := GP) (sub := subP prg) (C := tab prg wf (k + 1)) (n := k + 1) (th := th) (ρ := [some (.ref n), some (.int many), some (.bl false), some (.int j), some (.ref S.length), some (.int c), y, none]) (S := Sx) (S1 := Sx) (tg := .nm 7) (it := .range1 (.var 1)) (elt := .var 7) (conds := (.cons (.cmp .eq (.call 12 (.cons (.var 0) (.cons (.int 3) .nil))) (.int 0)) .nil)) (ds := rangeD 0 many) (I := fun S' => Up n Sx S') (Q := fun d => ∃ i, d = .int i) (it_range1 (by simp only [q_cons, q_nil, q_sexpr, q_asg, q_par, q_if, q_for, q_ret, q_raise, q_v, q_int, q_bl, q_non, q_str, q_glob, q_bin, q_neg, q_cmp, q_chain, q_and_, q_or_, q_not, q_ife, q_call, q_callB, q_tup, q_lst, q_cell, q_ix, q_slLo, q_slHi, q_slLH, q_rev, q_append, q_what, q_isX, es_nil, es_cons, ea_one, ea_cons, eo_one, eo_cons, el_nil, el_cons, it_seq, it_enum, sd_tup, sd_lst, e0, e1, e2, e3, e4, e5, e6, e7, e8, e9, e10, e11, e12, e13, e14, e15, e16, e17, e18, e19, e20, e21, e22, e23, e24, w0, w1, w2, w3, w4, w5, w6, w7, w8, w9, w10, w11, w12, w13, w14, w15, w16, w17, w18, w19, w20, w21, w22, w23, w24, look_non, look_bl, look_int, look_str, look_tup, look_lst, look_frz, look_ref, rb_ok, rb_exn, rg_ok, rg_exn, rs_next, rs_ret, rs_exn, op_some, om_some, sg_nm, sg_tp, sg_tp2, sa_nil, sa_cons, t_bl, t_non, t_int, t_tup, t_lst, f_next, f_ret, f_exn, tab1, Bool.not_true, Bool.not_false, b_add, b_sub, c_eq, c_ne, c_lt, c_le, c_gt, c_ge, c_is, c_isnot, i_tup, i_lst, eq_int, eq_bl, cb_isI, cb_tuple, cb_list, cb_lenL, cb_lenT, isN_non, isN_int, isN_tup]) (by omega)) (by rw [rangeD_len]; omega) (Up.refl ux.src) fun d hd Sy hy => by
            obtain ⟨i, rfl, _, _⟩ := rangeD_mem hd
            obtain ⟨w, Sz, t3, _, _, u⟩ := s_take (wf := wf) (k := k) (th := noThk) (top := (3 : Int)) hy.src (by omega) (by omega)
            refine ⟨[some (.ref n), some (.int many), some (.bl false), some (.int j), some (.ref S.length), some (.int c), y, some (.int i)], (w == 0), Sz, rfl, ?_, hy.trans u, .int i, Sz, by simp only [q_cons, q_nil, q_sexpr, q_asg, q_par, q_if, q_for, q_ret, q_raise, q_v, q_int, q_bl, q_non, q_str, q_glob, q_bin, q_neg, q_cmp, q_chain, q_and_, q_or_, q_not, q_ife, q_call, q_callB, q_tup, q_lst, q_cell, q_ix, q_slLo, q_slHi, q_slLH, q_rev, q_append, q_what, q_isX, es_nil, es_cons, ea_one, ea_cons, eo_one, eo_cons, el_nil, el_cons, it_seq, it_enum, sd_tup, sd_lst, e0, e1, e2, e3, e4, e5, e6, e7, e8, e9, e10, e11, e12, e13, e14, e15, e16, e17, e18, e19, e20, e21, e22, e23, e24, w0, w1, w2, w3, w4, w5, w6, w7, w8, w9, w10, w11, w12, w13, w14, w15, w16, w17, w18, w19, w20, w21, w22, w23, w24, look_non, look_bl, look_int, look_str, look_tup, look_lst, look_frz, look_ref, rb_ok, rb_exn, rg_ok, rg_exn, rs_next, rs_ret, rs_exn, op_some, om_some, sg_nm, sg_tp, sg_tp2, sa_nil, sa_cons, t_bl, t_non, t_int, t_tup, t_lst, f_next, f_ret, f_exn, tab1, Bool.not_true, Bool.not_false, b_add, b_sub, c_eq, c_ne, c_lt, c_le, c_gt, c_ge, c_is, c_isnot, i_tup, i_lst, eq_int, eq_bl, cb_isI, cb_tuple, cb_list, cb_lenL, cb_lenT, isN_non, isN_int, isN_tup], hy.trans u, i, rfl⟩
            simp only [q_cons, q_nil, q_sexpr, q_asg, q_par, q_if, q_for, q_ret, q_raise, q_v, q_int, q_bl, q_non, q_str, q_glob, q_bin, q_neg, q_cmp, q_chain, q_and_, q_or_, q_not, q_ife, q_call, q_callB, q_tup, q_lst, q_cell, q_ix, q_slLo, q_slHi, q_slLH, q_rev, q_append, q_what, q_isX, es_nil, es_cons, ea_one, ea_cons, eo_one, eo_cons, el_nil, el_cons, it_seq, it_enum, sd_tup, sd_lst, e0, e1, e2, e3, e4, e5, e6, e7, e8, e9, e10, e11, e12, e13, e14, e15, e16, e17, e18, e19, e20, e21, e22, e23, e24, w0, w1, w2, w3, w4, w5, w6, w7, w8, w9, w10, w11, w12, w13, w14, w15, w16, w17, w18, w19, w20, w21, w22, w23, w24, look_non, look_bl, look_int, look_str, look_tup, look_lst, look_frz, look_ref, rb_ok, rb_exn, rg_ok, rg_exn, rs_next, rs_ret, rs_exn, op_some, om_some, sg_nm, sg_tp, sg_tp2, sa_nil, sa_cons, t_bl, t_non, t_int, t_tup, t_lst, f_next, f_ret, f_exn, tab1, Bool.not_true, Bool.not_false, b_add, b_sub, c_eq, c_ne, c_lt, c_le, c_gt, c_ge, c_is, c_isnot, i_tup, i_lst, eq_int, eq_bl, cb_isI, cb_tuple, cb_list, cb_lenL, cb_lenT, isN_non, isN_int, isN_tup, t3]
            cases (w == 0) <;> rfl
          obtain ⟨r, rfl⟩ := ints_ex g4
          refine ⟨r, S3, ?_, g2⟩
          simp only [q_ife, q_v, e2, look_bl, rb_ok, t_bl]
          exact g1
      have m2 : ∀ Sq, ev GP (subP prg) (tab prg wf (k + 1)) (.comp false (.var 7) (.nm 7) (.range1 (.var 1)) (.cons (.or_ (.cons (.cmp .eq (.var 7) (.var 3)) (.cons (.cmp .isin (.var 7) (.var 6)) .nil))) .nil)) (k + 1) th [some (.ref n), some (.int many), some (.bl b), some (.int j), some (.ref S.length), some (.int c), some (.lst (r.map .int)), none] Sq = .ok (.lst ((rowOf many (inRow j r)).map .int)) Sq := fun Sq => by
        have := q_comp (G := GP) (sub := subP prg) (C := tab prg wf (k + 1)) (n := k + 1) (th := th) (S := Sq) (tg := .nm 7) (elt := .var 7) (conds := (.cons (.or_ (.cons (.cmp .eq (.var 7) (.var 3)) (.cons (.cmp .isin (.var 7) (.var 6)) .nil))) .nil)) (p := fun d => match d with
          | .int a => inRow j r a
          | _ => false) (f := fun d => d) (it (some (.lst (r.map .int))) Sq) (by rw [rangeD_len]; omega) fun d hd => by
            obtain ⟨i, rfl, _, _⟩ := rangeD_mem hd
            have ei : cmpop .isin (.int i) (.lst (r.map .int)) Sq = some ((r.map D.int).any fun y => eqF y (.int i)) := by
              rw [c_in (l := r.map .int) rfl, inD_ints]
            refine ⟨[some (.ref n), some (.int many), some (.bl b), some (.int j), some (.ref S.length), some (.int c), some (.lst (r.map .int)), some (.int i)], rfl, ?_, fun _ => by simp only [q_cons, q_nil, q_sexpr, q_asg, q_par, q_if, q_for, q_ret, q_raise, q_v, q_int, q_bl, q_non, q_str, q_glob, q_bin, q_neg, q_cmp, q_chain, q_and_, q_or_, q_not, q_ife, q_call, q_callB, q_tup, q_lst, q_cell, q_ix, q_slLo, q_slHi, q_slLH, q_rev, q_append, q_what, q_isX, es_nil, es_cons, ea_one, ea_cons, eo_one, eo_cons, el_nil, el_cons, it_seq, it_enum, sd_tup, sd_lst, e0, e1, e2, e3, e4, e5, e6, e7, e8, e9, e10, e11, e12, e13, e14, e15, e16, e17, e18, e19, e20, e21, e22, e23, e24, w0, w1, w2, w3, w4, w5, w6, w7, w8, w9, w10, w11, w12, w13, w14, w15, w16, w17, w18, w19, w20, w21, w22, w23, w24, look_non, look_bl, look_int, look_str, look_tup, look_lst, look_frz, look_ref, rb_ok, rb_exn, rg_ok, rg_exn, rs_next, rs_ret, rs_exn, op_some, om_some, sg_nm, sg_tp, sg_tp2, sa_nil, sa_cons, t_bl, t_non, t_int, t_tup, t_lst, f_next, f_ret, f_exn, tab1, Bool.not_true, Bool.not_false, b_add, b_sub, c_eq, c_ne, c_lt, c_le, c_gt, c_ge, c_is, c_isnot, i_tup, i_lst, eq_int, eq_bl, cb_isI, cb_tuple, cb_list, cb_lenL, cb_lenT, isN_non, isN_int, isN_tup]⟩
            simp only [inRow]
            cases q : (i == (j : Int)) with
            | true => simp only [q_cons, q_nil, q_sexpr, q_asg, q_par, q_if, q_for, q_ret, q_raise, q_v, q_int, q_bl, q_non, q_str, q_glob, q_bin, q_neg, q_cmp, q_chain, q_and_, q_or_, q_not, q_ife, q_call, q_callB, q_tup, q_lst, q_cell, q_ix, q_slLo, q_slHi, q_slLH, q_rev, q_append, q_what, q_isX, es_nil, es_cons, ea_one, ea_cons, eo_one, eo_cons, el_nil, el_cons, it_seq, it_enum, sd_tup, sd_lst, e0, e1, e2, e3, e4, e5, e6, e7, e8, e9, e10, e11, e12, e13, e14, e15, e16, e17, e18, e19, e20, e21, e22, e23, e24, w0, w1, w2, w3, w4, w5, w6, w7, w8, w9, w10, w11, w12, w13, w14, w15, w16, w17, w18, w19, w20, w21, w22, w23, w24, look_non, look_bl, look_int, look_str, look_tup, look_lst, look_frz, look_ref, rb_ok, rb_exn, rg_ok, rg_exn, rs_next, rs_ret, rs_exn, op_some, om_some, sg_nm, sg_tp, sg_tp2, sa_nil, sa_cons, t_bl, t_non, t_int, t_tup, t_lst, f_next, f_ret, f_exn, tab1, Bool.not_true, Bool.not_false, b_add, b_sub, c_eq, c_ne, c_lt, c_le, c_gt, c_ge, c_is, c_isnot, i_tup, i_lst, eq_int, eq_bl, cb_isI, cb_tuple, cb_list, cb_lenL, cb_lenT, isN_non, isN_int, isN_tup, q, Bool.true_or]
            | false =>
              simp only [q_cons, q_nil, q_sexpr, q_asg, q_par, q_if, q_for, q_ret, q_raise, q_v, q_int, q_bl, q_non, q_str, q_glob, q_bin, q_neg, q_cmp, q_chain, q_and_, q_or_, q_not, q_ife, q_call, q_callB, q_tup, q_lst, q_cell, q_ix, q_slLo, q_slHi, q_slLH, q_rev, q_append, q_what, q_isX, es_nil, es_cons, ea_one, ea_cons, eo_one, eo_cons, el_nil, el_cons, it_seq, it_enum, sd_tup, sd_lst, e0, e1, e2, e3, e4, e5, e6, e7, e8, e9, e10, e11, e12, e13, e14, e15, e16, e17, e18, e19, e20, e21, e22, e23, e24, w0, w1, w2, w3, w4, w5, w6, w7, w8, w9, w10, w11, w12, w13, w14, w15, w16, w17, w18, w19, w20, w21, w22, w23, w24, look_non, look_bl, look_int, look_str, look_tup, look_lst, look_frz, look_ref, rb_ok, rb_exn, rg_ok, rg_exn, rs_next, rs_ret, rs_exn, op_some, om_some, sg_nm, sg_tp, sg_tp2, sa_nil, sa_cons, t_bl, t_non, t_int, t_tup, t_lst, f_next, f_ret, f_exn, tab1, Bool.not_true, Bool.not_false, b_add, b_sub, c_eq, c_ne, c_lt, c_le, c_gt, c_ge, c_is, c_isnot, i_tup, i_lst, eq_int, eq_bl, cb_isI, cb_tuple, cb_list, cb_lenL, cb_lenT, isN_non, isN_int, isN_tup, q, ei, Bool.false_or]
              cases (r.map D.int).any fun y => eqF y (.int i) <;> rfl
        rw [List.map_id'] at this
        rw [this, rangeD_zero, List.filter_map]
        rfl
      have hx3 : S3[S.length]? = some (.lst (rows.map dRow)) := u3.keep hx (by omega)
      have hlen : (rows.map dRow).length < 16777216 := by rw [List.length_map]; omega
      refine ⟨_, [some (.ref n), some (.int many), some (.bl b), some (.int j), some (.ref S.length), some (.int c), some (.lst (r.map .int)), none], S3.set S.length (.lst (rows.map dRow ++ [dRow (rowOf many (inRow j r))])), rfl, ?_, some (.int j), some (.lst (r.map .int)), rows ++ [rowOf many (inRow j r)], rfl, (ux.trans u3).set (Nat.le_refl _) hn, ?_, by simp [hl], ?_⟩
      · subst hB
        rw [show ([some (.ref n), some (.int many), some (.bl b), x, some (.ref S.length), some (.int c), y, none] : Env).set 3 (some (.int (j : Int))) = [some (.ref n), some (.int many), some (.bl b), some (.int j), some (.ref S.length), some (.int c), y, none] from rfl]
        rw [q_cons, q_asg, m1, rg_ok, sg_nm, w6]
        simp only [rs_next]
        rw [q_cons, q_sexpr, q_append, q_v, e4, look_ref, rb_ok]
        simp only []
        rw [q_callB, es_cons, m2, rb_ok, es_nil, rb_ok, rb_ok, cb_tuple, i_lst, om_some, op_some, rb_ok, hx3]
        simp only [hlen, if_true, rg_ok, rs_next, q_nil]
        rfl
      · have hlt : S.length < S3.length := (List.getElem?_eq_some_iff.mp hx3).1
        simp [hlt]
      · intro i r' hi
        rw [List.getElem?_append] at hi
        split at hi
        · exact hr i r' hi
        · rename_i q
          rw [hl, Nat.zero_add] at hi
          have : i - j = 0 := by
            cases h : i - j with
            | zero => rfl
            | succ m => rw [h] at hi; simp at hi
          rw [this] at hi
          simp only [List.getElem?_cons_zero, Option.some.injEq] at hi
          subst hi
          have e : i = j := by omega
          rw [e]
          exact rowOf_ok hj (by simp [inRow])
  obtain ⟨ρ', S', g1, x, y, rows, rfl, g2, g3, g4, g5⟩ := lp
  rw [rangeD_len, Nat.zero_add] at g4
  refine ⟨rows, S', ?_, ⟨g4, g5⟩, g2⟩
  have it2 : evIt GP (subP prg) (tab prg wf (k + 1)) (.range1 (.var 1)) (k + 1) th [some (.ref n), some (.int many), some (.bl b), none, some (.ref S.length), some (.int c), none, none] S2 = .ok (rangeD 0 many) S2 := it_range1 (by simp only [q_cons, q_nil, q_sexpr, q_asg, q_par, q_if, q_for, q_ret, q_raise, q_v, q_int, q_bl, q_non, q_str, q_glob, q_bin, q_neg, q_cmp, q_chain, q_and_, q_or_, q_not, q_ife, q_call, q_callB, q_tup, q_lst, q_cell, q_ix, q_slLo, q_slHi, q_slLH, q_rev, q_append, q_what, q_isX, es_nil, es_cons, ea_one, ea_cons, eo_one, eo_cons, el_nil, el_cons, it_seq, it_enum, sd_tup, sd_lst, e0, e1, e2, e3, e4, e5, e6, e7, e8, e9, e10, e11, e12, e13, e14, e15, e16, e17, e18, e19, e20, e21, e22, e23, e24, w0, w1, w2, w3, w4, w5, w6, w7, w8, w9, w10, w11, w12, w13, w14, w15, w16, w17, w18, w19, w20, w21, w22, w23, w24, look_non, look_bl, look_int, look_str, look_tup, look_lst, look_frz, look_ref, rb_ok, rb_exn, rg_ok, rg_exn, rs_next, rs_ret, rs_exn, op_some, om_some, sg_nm, sg_tp, sg_tp2, sa_nil, sa_cons, t_bl, t_non, t_int, t_tup, t_lst, f_next, f_ret, f_exn, tab1, Bool.not_true, Bool.not_false, b_add, b_sub, c_eq, c_ne, c_lt, c_le, c_gt, c_ge, c_is, c_isnot, i_tup, i_lst, eq_int, eq_bl, cb_isI, cb_tuple, cb_list, cb_lenL, cb_lenT, isN_non, isN_int, isN_tup]) (by omega)
  subst hB
  simp only [d15, q_cons, q_nil, q_sexpr, q_asg, q_par, q_if, q_for, q_ret, q_raise, q_v, q_int, q_bl, q_non, q_str, q_glob, q_bin, q_neg, q_cmp, q_chain, q_and_, q_or_, q_not, q_ife, q_call, q_callB, q_tup, q_lst, q_cell, q_ix, q_slLo, q_slHi, q_slLH, q_rev, q_append, q_what, q_isX, es_nil, es_cons, ea_one, ea_cons, eo_one, eo_cons, el_nil, el_cons, it_seq, it_enum, sd_tup, sd_lst, e0, e1, e2, e3, e4, e5, e6, e7, e8, e9, e10, e11, e12, e13, e14, e15, e16, e17, e18, e19, e20, e21, e22, e23, e24, w0, w1, w2, w3, w4, w5, w6, w7, w8, w9, w10, w11, w12, w13, w14, w15, w16, w17, w18, w19, w20, w21, w22, w23, w24, look_non, look_bl, look_int, look_str, look_tup, look_lst, look_frz, look_ref, rb_ok, rb_exn, rg_ok, rg_exn, rs_next, rs_ret, rs_exn, op_some, om_some, sg_nm, sg_tp, sg_tp2, sa_nil, sa_cons, t_bl, t_non, t_int, t_tup, t_lst, f_next, f_ret, f_exn, tab1, Bool.not_true, Bool.not_false, b_add, b_sub, c_eq, c_ne, c_lt, c_le, c_gt, c_ge, c_is, c_isnot, i_tup, i_lst, eq_int, eq_bl, cb_isI, cb_tuple, cb_list, cb_lenL, cb_lenT, isN_non, isN_int, isN_tup, t1, t2, hb, it2, g1, i_ref g3]
  rfl
end
end BhK00

set_option Elab.async false
set_option linter.all false
set_option maxRecDepth 100000
set_option maxHeartbeats 1000000
namespace BhK00
open Bh
section
variable {wf k : Nat} {th : Thk} {S : Sto}
theorem s_told {d : D} {S' : Sto} (h : th S = .ok d S') : callF prg wf (k + 1) 23 [.lam] th S = .ok (.tup [.str "told", d]) S' := by
  rw [call_to (d := d23) (ρ := [some .lam, none]) (G := GP) rfl rfl rfl rfl]
  simp only [d23, q_cons, q_nil, q_sexpr, q_asg, q_par, q_if, q_for, q_ret, q_raise, q_v, q_int, q_bl, q_non, q_str, q_glob, q_bin, q_neg, q_cmp, q_chain, q_and_, q_or_, q_not, q_ife, q_call, q_callB, q_tup, q_lst, q_cell, q_ix, q_slLo, q_slHi, q_slLH, q_rev, q_append, q_what, q_isX, es_nil, es_cons, ea_one, ea_cons, eo_one, eo_cons, el_nil, el_cons, it_seq, it_enum, sd_tup, sd_lst, e0, e1, e2, e3, e4, e5, e6, e7, e8, e9, e10, e11, e12, e13, e14, e15, e16, e17, e18, e19, e20, e21, e22, e23, e24, w0, w1, w2, w3, w4, w5, w6, w7, w8, w9, w10, w11, w12, w13, w14, w15, w16, w17, w18, w19, w20, w21, w22, w23, w24, look_non, look_bl, look_int, look_str, look_tup, look_lst, look_frz, look_ref, rb_ok, rb_exn, rg_ok, rg_exn, rs_next, rs_ret, rs_exn, op_some, om_some, sg_nm, sg_tp, sg_tp2, sa_nil, sa_cons, t_bl, t_non, t_int, t_tup, t_lst, f_next, f_ret, f_exn, tab1, Bool.not_true, Bool.not_false, b_add, b_sub, c_eq, c_ne, c_lt, c_le, c_gt, c_ge, c_is, c_isnot, i_tup, i_lst, eq_int, eq_bl, cb_isI, cb_tuple, cb_list, cb_lenL, cb_lenT, isN_non, isN_int, isN_tup, q_try, act_lam (i := 0) e0, h, try_ret]
theorem s_refused {w : D} {S' : Sto} (h : th S = .exn 1 w S') : callF prg wf (k + 1) 23 [.lam] th S = .ok (.tup [.str "refused", w, .bl true]) S' := by
  rw [call_to (d := d23) (ρ := [some .lam, none]) (G := GP) rfl rfl rfl rfl]
  have hc : (clean [some .lam, none]).set 1 (some (.exc 1 w)) = [some .lam, some (.exc 1 w)] := rfl
  have s0 : subP prg 1 0 = some true := rfl
  have s1 : subP prg 1 1 = some true := rfl
  have s2 : subP prg 1 2 = some true := rfl
  simp only [d23, q_cons, q_nil, q_sexpr, q_asg, q_par, q_if, q_for, q_ret, q_raise, q_v, q_int, q_bl, q_non, q_str, q_glob, q_bin, q_neg, q_cmp, q_chain, q_and_, q_or_, q_not, q_ife, q_call, q_callB, q_tup, q_lst, q_cell, q_ix, q_slLo, q_slHi, q_slLH, q_rev, q_append, q_what, q_isX, es_nil, es_cons, ea_one, ea_cons, eo_one, eo_cons, el_nil, el_cons, it_seq, it_enum, sd_tup, sd_lst, e0, e1, e2, e3, e4, e5, e6, e7, e8, e9, e10, e11, e12, e13, e14, e15, e16, e17, e18, e19, e20, e21, e22, e23, e24, w0, w1, w2, w3, w4, w5, w6, w7, w8, w9, w10, w11, w12, w13, w14, w15, w16, w17, w18, w19, w20, w21, w22, w23, w24, look_non, look_bl, look_int, look_str, look_tup, look_lst, look_frz, look_ref, rb_ok, rb_exn, rg_ok, rg_exn, rs_next, rs_ret, rs_exn, op_some, om_some, sg_nm, sg_tp, sg_tp2, sa_nil, sa_cons, t_bl, t_non, t_int, t_tup, t_lst, f_next, f_ret, f_exn, tab1, Bool.not_true, Bool.not_false, b_add, b_sub, c_eq, c_ne, c_lt, c_le, c_gt, c_ge, c_is, c_isnot, i_tup, i_lst, eq_int, eq_bl, cb_isI, cb_tuple, cb_list, cb_lenL, cb_lenT, isN_non, isN_int, isN_tup, q_try, act_lam (i := 0) e0, h, try_exn, hd_some s0, hc, what_exc (i := 1) e1, isx_exc (i := 1) e1 s1, isx_exc (i := 1) e1 s2, endH_ret, try_ret]
theorem isN_true {d : D} (h : isN d = true) : d = .non := by cases d <;> first | rfl | cases h
theorem isN_isNon (d : D) : isNon d = isN d := by cases d <;> rfl
theorem lv_told {n : Nat} : Lv n (.str "told") := .str _ _ (by decide +kernel) (by decide +kernel)
theorem lv_refused {n : Nat} : Lv n (.str "refused") := .str _ _ (by decide +kernel) (by decide +kernel)
theorem firstF_le : ∀ (bs : List Bool) (i : Nat) (j : Int), firstF bs i = .int j → 0 ≤ j ∧ j ≤ i + bs.length
  | [], _, _, h => by cases h
  | b :: bs, i, j, h => by
    cases b with
    | true =>
      have := firstF_le bs (i + 1) j h
      simp only [List.length_cons]
      omega
    | false =>
      injection h with h
      simp only [List.length_cons]
      omega
theorem bookFault_lv {t : D} {n : Nat} (h : Lv n t) : Lv 1 (bookFault t) := by
  unfold bookFault
  split
  · split
    · rename_i s l _
      obtain ⟨m, rfl, _, h2⟩ := h.mem
      obtain ⟨m1, _, hs, _⟩ := (h2 (.tup s) (by simp)).mem
      obtain ⟨m2, _, hl, _⟩ := (h2 (.tup l) (by simp)).mem
      have fl := flags_len s.length l 0
      rcases firstF_or (s.map (numFrom 1 60)) 0 with z | ⟨j, z⟩
      · rw [z]
        rcases firstF_or (flags s.length l 0) 0 with y | ⟨j, y⟩
        · rw [y, ft_non]; exact .non _
        · rw [y, ft_one]
          have := firstF_le _ _ _ y
          exact .tup _ _ (by simp) (by simp; exact ⟨.int _ _ (by decide), .int _ _ (by omega)⟩)
      · rw [z, ft_two]
        have := firstF_le _ _ _ z
        rw [List.length_map] at this
        exact .tup _ _ (by simp) (by simp; exact ⟨.int _ _ (by decide), .int _ _ (by omega)⟩)
    · exact .non _
  · exact .int _ _ (by decide)
theorem Lv.ups {n m : Nat} {d : D} (h : Lv n d) (e : n ≤ m) : Lv m d := by
  induction e with
  | refl => exact h
  | step _ ih => exact ih.up
/-- the law's look at a thing -/
theorem s_thing {t : D} (h : Lv 3 t) : callF prg wf (k + 9) 24 [t] th S = .ok (.bl true) S := by
  rw [call_to (d := d24) (ρ := [some t, none, none]) (G := GP) rfl rfl rfl rfl]
  have pd := h.pd
  have w : callF prg wf (k + 8) 18 [t] noThk S = _ := s_wrong (wf := wf) (k := k + 5) (th := noThk) (S := S) h (by decide)
  have m := s_made (wf := wf) (k := k) (th := noThk) (S := S) pd
  have ib : callF prg wf (k + 8) 6 [t] noThk S = _ := s_isbook (wf := wf) (k := k + 2) (th := noThk) (S := S) pd
  have fv := bookFault_lv h
  have lk := fun S => look_pd pd S
  have lf := fun S => look_pd fv.pd S
  have tb : tab prg wf (k + 8) (k + 6) = callF prg wf (k + 6) := tab_eq prg wf (by omega)
  obtain ⟨rb, hb⟩ := repr_bl (isN (bookFault t))
  cases q : isN (bookFault t) with
  | true =>
    have fe := isN_true q
    rw [q] at m ib hb
    have hd : callF prg wf (k + 8) 23 [.lam] (fun S' => tab prg wf (k + 8) (k + 6) 5 [t] noThk S') S = .ok (.tup [.str "told", t]) S := s_told (k := k + 7) (by rw [tb, m, if_pos rfl])
    obtain ⟨rd, hr⟩ := Lv.repr (n := 4) (d := .tup [.str "told", t]) (.tup _ _ (by simp) (by simp; exact ⟨lv_told, h⟩)) (by decide)
    simp only [d24, q_cons, q_nil, q_sexpr, q_asg, q_par, q_if, q_for, q_ret, q_raise, q_v, q_int, q_bl, q_non, q_str, q_glob, q_bin, q_neg, q_cmp, q_chain, q_and_, q_or_, q_not, q_ife, q_call, q_callB, q_tup, q_lst, q_cell, q_ix, q_slLo, q_slHi, q_slLH, q_rev, q_append, q_what, q_isX, es_nil, es_cons, ea_one, ea_cons, eo_one, eo_cons, el_nil, el_cons, it_seq, it_enum, sd_tup, sd_lst, e0, e1, e2, e3, e4, e5, e6, e7, e8, e9, e10, e11, e12, e13, e14, e15, e16, e17, e18, e19, e20, e21, e22, e23, e24, w0, w1, w2, w3, w4, w5, w6, w7, w8, w9, w10, w11, w12, w13, w14, w15, w16, w17, w18, w19, w20, w21, w22, w23, w24, look_non, look_bl, look_int, look_str, look_tup, look_lst, look_frz, look_ref, rb_ok, rb_exn, rg_ok, rg_exn, rs_next, rs_ret, rs_exn, op_some, om_some, sg_nm, sg_tp, sg_tp2, sa_nil, sa_cons, t_bl, t_non, t_int, t_tup, t_lst, f_next, f_ret, f_exn, tab1, Bool.not_true, Bool.not_false, b_add, b_sub, c_eq, c_ne, c_lt, c_le, c_gt, c_ge, c_is, c_isnot, i_tup, i_lst, eq_int, eq_bl, cb_isI, cb_tuple, cb_list, cb_lenL, cb_lenT, isN_non, isN_int, isN_tup, lk, w, fe, q_lam (m := k + 6), hd, cb_repr, hr, eq_str, ib, hb]
  | false =>
    rw [q] at m ib hb
    have hd : callF prg wf (k + 8) 23 [.lam] (fun S' => tab prg wf (k + 8) (k + 6) 5 [t] noThk S') S = .ok (.tup [.str "refused", bookFault t, .bl true]) S := s_refused (k := k + 7) (by rw [tb, m, if_neg (by decide)])
    obtain ⟨rd, hr⟩ := Lv.repr (n := 2) (d := .tup [.str "refused", bookFault t, .bl true]) (.tup _ _ (by simp) (by simp; exact ⟨lv_refused, fv, .bl _ _⟩)) (by decide)
    simp only [d24, q_cons, q_nil, q_sexpr, q_asg, q_par, q_if, q_for, q_ret, q_raise, q_v, q_int, q_bl, q_non, q_str, q_glob, q_bin, q_neg, q_cmp, q_chain, q_and_, q_or_, q_not, q_ife, q_call, q_callB, q_tup, q_lst, q_cell, q_ix, q_slLo, q_slHi, q_slLH, q_rev, q_append, q_what, q_isX, es_nil, es_cons, ea_one, ea_cons, eo_one, eo_cons, el_nil, el_cons, it_seq, it_enum, sd_tup, sd_lst, e0, e1, e2, e3, e4, e5, e6, e7, e8, e9, e10, e11, e12, e13, e14, e15, e16, e17, e18, e19, e20, e21, e22, e23, e24, w0, w1, w2, w3, w4, w5, w6, w7, w8, w9, w10, w11, w12, w13, w14, w15, w16, w17, w18, w19, w20, w21, w22, w23, w24, look_non, look_bl, look_int, look_str, look_tup, look_lst, look_frz, look_ref, rb_ok, rb_exn, rg_ok, rg_exn, rs_next, rs_ret, rs_exn, op_some, om_some, sg_nm, sg_tp, sg_tp2, sa_nil, sa_cons, t_bl, t_non, t_int, t_tup, t_lst, f_next, f_ret, f_exn, tab1, Bool.not_true, Bool.not_false, b_add, b_sub, c_eq, c_ne, c_lt, c_le, c_gt, c_ge, c_is, c_isnot, i_tup, i_lst, eq_int, eq_bl, cb_isI, cb_tuple, cb_list, cb_lenL, cb_lenT, isN_non, isN_int, isN_tup, lk, lf, isN_isNon, q, w, q_lam (m := k + 6), hd, cb_repr, hr, eq_str, ib, hb]
theorem plainD_lv {n : Nat} (h : n ≤ 10) : Lv 2 (plainD n) := by
  rw [plain_eq]
  exact links_lv (plain_good n) h
/-- the law's look at steps -/
theorem s_plainright {t : D} (h : Lv 2 t) : callF prg wf (k + 10) 25 [t] th S = .ok (.bl true) S := by
  rw [call_to (d := d25) (ρ := [some t, none, none]) (G := GP) rfl rfl rfl rfl]
  have pd := h.pd
  have lk := fun S => look_pd pd S
  have tb : tab prg wf (k + 9) (k + 7) = callF prg wf (k + 7) := tab_eq prg wf (by omega)
  have pl := s_plain (wf := wf) (k := k) (th := noThk) (S := S) pd (fun s e => by
    rw [e] at h
    obtain ⟨m, _, h7, _⟩ := h.mem
    omega)
  cases t with
  | tup s =>
    obtain ⟨m, _, h7, _⟩ := h.mem
    have pp : callF prg wf (k + 9) 14 [.int s.length] noThk S = .ok (plainD s.length) S := s_plainlinks (k := k + 8) (by omega)
    have hb : Lv 3 (.tup [.tup s, plainD s.length]) := .tup _ _ (by simp) (by simp; exact ⟨h, plainD_lv h7⟩)
    have w : callF prg wf (k + 9) 18 [.tup [.tup s, plainD s.length]] noThk S = _ := s_wrong (wf := wf) (k := k + 6) (th := noThk) (S := S) hb (by decide)
    have fv := bookFault_lv hb
    have lf := fun S => look_pd fv.pd S
    have lp := fun S => look_pd (plainD_PD s.length) S
    have ty : isTy (.tup s) .tuple = some true := rfl
    cases q : isN (bookFault (.tup [.tup s, plainD s.length])) with
    | true =>
      have fe := isN_true q
      have hd : callF prg wf (k + 9) 23 [.lam] (fun S' => tab prg wf (k + 9) (k + 7) 7 [.tup s] noThk S') S = .ok (.tup [.str "told", .tup [.tup s, plainD s.length]]) S := s_told (k := k + 8) (by rw [tb, pl]; simp only [q, if_true])
      obtain ⟨rd, hr⟩ := Lv.repr (n := 4) (d := .tup [.str "told", .tup [.tup s, plainD s.length]]) (.tup _ _ (by simp) (by simp; exact ⟨lv_told, hb⟩)) (by decide)
      simp only [d25, q_cons, q_nil, q_sexpr, q_asg, q_par, q_if, q_for, q_ret, q_raise, q_v, q_int, q_bl, q_non, q_str, q_glob, q_bin, q_neg, q_cmp, q_chain, q_and_, q_or_, q_not, q_ife, q_call, q_callB, q_tup, q_lst, q_cell, q_ix, q_slLo, q_slHi, q_slLH, q_rev, q_append, q_what, q_isX, es_nil, es_cons, ea_one, ea_cons, eo_one, eo_cons, el_nil, el_cons, it_seq, it_enum, sd_tup, sd_lst, e0, e1, e2, e3, e4, e5, e6, e7, e8, e9, e10, e11, e12, e13, e14, e15, e16, e17, e18, e19, e20, e21, e22, e23, e24, w0, w1, w2, w3, w4, w5, w6, w7, w8, w9, w10, w11, w12, w13, w14, w15, w16, w17, w18, w19, w20, w21, w22, w23, w24, look_non, look_bl, look_int, look_str, look_tup, look_lst, look_frz, look_ref, rb_ok, rb_exn, rg_ok, rg_exn, rs_next, rs_ret, rs_exn, op_some, om_some, sg_nm, sg_tp, sg_tp2, sa_nil, sa_cons, t_bl, t_non, t_int, t_tup, t_lst, f_next, f_ret, f_exn, tab1, Bool.not_true, Bool.not_false, b_add, b_sub, c_eq, c_ne, c_lt, c_le, c_gt, c_ge, c_is, c_isnot, i_tup, i_lst, eq_int, eq_bl, cb_isI, cb_tuple, cb_list, cb_lenL, cb_lenT, isN_non, isN_int, isN_tup, ty, pp, lp, w, fe, q_lam (m := k + 7), hd, cb_repr, hr, eq_str]
    | false =>
      have hd : callF prg wf (k + 9) 23 [.lam] (fun S' => tab prg wf (k + 9) (k + 7) 7 [.tup s] noThk S') S = .ok (.tup [.str "refused", bookFault (.tup [.tup s, plainD s.length]), .bl true]) S := s_refused (k := k + 8) (by rw [tb, pl]; simp only [q, Bool.false_eq_true, if_false])
      obtain ⟨rd, hr⟩ := Lv.repr (n := 2) (d := .tup [.str "refused", bookFault (.tup [.tup s, plainD s.length]), .bl true]) (.tup _ _ (by simp) (by simp; exact ⟨lv_refused, fv, .bl _ _⟩)) (by decide)
      simp only [d25, q_cons, q_nil, q_sexpr, q_asg, q_par, q_if, q_for, q_ret, q_raise, q_v, q_int, q_bl, q_non, q_str, q_glob, q_bin, q_neg, q_cmp, q_chain, q_and_, q_or_, q_not, q_ife, q_call, q_callB, q_tup, q_lst, q_cell, q_ix, q_slLo, q_slHi, q_slLH, q_rev, q_append, q_what, q_isX, es_nil, es_cons, ea_one, ea_cons, eo_one, eo_cons, el_nil, el_cons, it_seq, it_enum, sd_tup, sd_lst, e0, e1, e2, e3, e4, e5, e6, e7, e8, e9, e10, e11, e12, e13, e14, e15, e16, e17, e18, e19, e20, e21, e22, e23, e24, w0, w1, w2, w3, w4, w5, w6, w7, w8, w9, w10, w11, w12, w13, w14, w15, w16, w17, w18, w19, w20, w21, w22, w23, w24, look_non, look_bl, look_int, look_str, look_tup, look_lst, look_frz, look_ref, rb_ok, rb_exn, rg_ok, rg_exn, rs_next, rs_ret, rs_exn, op_some, om_some, sg_nm, sg_tp, sg_tp2, sa_nil, sa_cons, t_bl, t_non, t_int, t_tup, t_lst, f_next, f_ret, f_exn, tab1, Bool.not_true, Bool.not_false, b_add, b_sub, c_eq, c_ne, c_lt, c_le, c_gt, c_ge, c_is, c_isnot, i_tup, i_lst, eq_int, eq_bl, cb_isI, cb_tuple, cb_list, cb_lenL, cb_lenT, isN_non, isN_int, isN_tup, ty, pp, lp, w, lf, isN_isNon, q, q_lam (m := k + 7), hd, cb_repr, hr, eq_str]
  | lst _ => cases pd
  | frz _ => cases pd
  | ref _ => cases pd
  | exc _ _ => cases pd
  | lam => cases pd
  | _ =>
    obtain ⟨rd, hr⟩ := Lv.repr (n := 2) (d := .tup [.str "refused", .int (-1), .bl true]) (.tup _ _ (by simp) (by simp; exact ⟨lv_refused, .int _ _ (by decide), .bl _ _⟩)) (by decide)
    simp only [] at pl
    have hd := s_refused (wf := wf) (k := k + 8) (th := fun S' => tab prg wf (k + 9) (k + 7) 7 [_] noThk S') (by rw [tb]; exact pl)
    simp only [d25, q_cons, q_nil, q_sexpr, q_asg, q_par, q_if, q_for, q_ret, q_raise, q_v, q_int, q_bl, q_non, q_str, q_glob, q_bin, q_neg, q_cmp, q_chain, q_and_, q_or_, q_not, q_ife, q_call, q_callB, q_tup, q_lst, q_cell, q_ix, q_slLo, q_slHi, q_slLH, q_rev, q_append, q_what, q_isX, es_nil, es_cons, ea_one, ea_cons, eo_one, eo_cons, el_nil, el_cons, it_seq, it_enum, sd_tup, sd_lst, e0, e1, e2, e3, e4, e5, e6, e7, e8, e9, e10, e11, e12, e13, e14, e15, e16, e17, e18, e19, e20, e21, e22, e23, e24, w0, w1, w2, w3, w4, w5, w6, w7, w8, w9, w10, w11, w12, w13, w14, w15, w16, w17, w18, w19, w20, w21, w22, w23, w24, look_non, look_bl, look_int, look_str, look_tup, look_lst, look_frz, look_ref, rb_ok, rb_exn, rg_ok, rg_exn, rs_next, rs_ret, rs_exn, op_some, om_some, sg_nm, sg_tp, sg_tp2, sa_nil, sa_cons, t_bl, t_non, t_int, t_tup, t_lst, f_next, f_ret, f_exn, tab1, Bool.not_true, Bool.not_false, b_add, b_sub, c_eq, c_ne, c_lt, c_le, c_gt, c_ge, c_is, c_isnot, i_tup, i_lst, eq_int, eq_bl, cb_isI, cb_tuple, cb_list, cb_lenL, cb_lenT, isN_non, isN_int, isN_tup, isTy, q_lam (m := k + 7), hd, cb_repr, hr, eq_str]
end
end BhK00

set_option Elab.async false
set_option linter.all false
set_option maxRecDepth 100000
set_option maxHeartbeats 1000000
namespace Bh
open PySem
/-! ### cuts and joins -/
theorem cut_hi {α : Type} {l : List α} {j : Nat} : cut l none (some (j : Int)) = l.take j := by
  unfold cut
  rw [HT.sIx_none, HT.sIx_nat, List.drop_zero, Nat.sub_zero]
  by_cases h : j ≤ l.length
  · rw [Nat.min_eq_left h]
  · rw [Nat.min_eq_right (by omega), List.take_length, List.take_of_length_le (by omega)]
theorem cut_lo {α : Type} {l : List α} {j : Nat} : cut l (some (j : Int)) none = l.drop j := by
  unfold cut
  rw [HT.sIx_none, HT.sIx_nat]
  by_cases h : j ≤ l.length
  · rw [Nat.min_eq_left h, List.take_of_length_le (by simp)]
  · rw [Nat.min_eq_right (by omega), List.drop_length, List.drop_eq_nil_of_le (by omega)]
    simp
theorem sl_hi {l : List D} {j : Nat} {S : Sto} : slice (.tup l) none (some (j : Int)) S = some (.tup (l.take j)) := by
  rw [← cut_hi]
  rfl
theorem sl_lo {l : List D} {j : Nat} {S : Sto} : slice (.tup l) (some (j : Int)) none S = some (.tup (l.drop j)) := by
  rw [← cut_lo]
  rfl
theorem b_tup {i j : List D} (h : i.length + j.length ≤ 16777216) : binop .add (.tup i) (.tup j) = some (.tup (i ++ j)) := by
  have e : binop .add (.tup i) (.tup j) = (if i.length + j.length ≤ 16777216 then some (.tup (i ++ j)) else none) := (rfl)
  rw [e, if_pos h]
theorem b_lst {i j : List D} (h : i.length + j.length ≤ 16777216) : binop .add (.lst i) (.lst j) = some (.lst (i ++ j)) := by
  have e : binop .add (.lst i) (.lst j) = (if i.length + j.length ≤ 16777216 then some (.lst (i ++ j)) else none) := (rfl)
  rw [e, if_pos h]
theorem b_rep {l : List D} {k : Nat} (h : k ≤ 1000) (h2 : l.length ≤ 1000) : binop .mul (.lst l) (.int (k : Int)) = some (.lst (List.replicate k l).flatten) := by
  have e : binop .mul (.lst l) (.int (k : Int)) = (if 0 ≤ (k : Int) ∧ (k : Int) ≤ 1000 ∧ l.length ≤ 1000 then some (.lst (List.replicate (k : Int).toNat l).flatten) else none) := (rfl)
  rw [e, if_pos ⟨by omega, by omega, h2⟩, Int.toNat_natCast]
theorem b_trep {l : List D} {k : Nat} (h : k ≤ 1000) (h2 : l.length ≤ 1000) (h3 : 0 < l.length) : binop .mul (.tup l) (.int (k : Int)) = some (.tup (List.replicate k l).flatten) := by
  have e : binop .mul (.tup l) (.int (k : Int)) = (if -1000 ≤ (k : Int) ∧ (k : Int) ≤ 1000 ∧ l.length ≤ 1000 ∧ 0 < l.length then some (.tup (List.replicate (k : Int).toNat l).flatten) else none) := (rfl)
  rw [e, if_pos ⟨by omega, by omega, h2, h3⟩, Int.toNat_natCast]
theorem rev_tup {G : List Int} {sub : Nat → Nat → Option Bool} {C : Nat → Fns} {n : Nat} {th : Thk} {ρ : Env} {S S1 : Sto} {a : Ex} {l : List D} (h : ev G sub C a n th ρ S = .ok (.tup l) S1) : ev G sub C (.rev a) n th ρ S = .ok (.tup l.reverse) S1 := by
  rw [q_rev, h]
  rfl
/-- an entry is another one -/
theorem Lv.put {n j : Nat} {l : List D} {d : D} (h : Lv (n + 1) (.tup l)) (hd : Lv n d) (hj : j < l.length) : Lv (n + 1) (.tup (l.take j ++ [d] ++ l.drop (j + 1))) := by
  obtain ⟨m, e, h1, h2⟩ := h.mem
  injection e with e
  subst e
  refine .tup _ _ (by simp; omega) fun x hx => ?_
  simp only [List.mem_append, List.mem_singleton] at hx
  rcases hx with (hx | hx) | hx
  · exact h2 x (List.mem_of_mem_take hx)
  · rw [hx]; exact hd
  · exact h2 x (List.mem_of_mem_drop hx)
end Bh

set_option Elab.async false
set_option linter.all false
set_option maxRecDepth 100000
set_option maxHeartbeats 1000000
namespace BhK00
open Bh
section
variable {wf k : Nat} {th : Thk} {S : Sto}
theorem s_put {l : List D} {j : Nat} {d : D} (hd : PD d) (hj : j < l.length) (hl : l.length ≤ 1000) : callF prg wf (k + 1) 20 [.tup l, .int (j : Int), d] th S = .ok (.tup (l.take j ++ [d] ++ l.drop (j + 1))) S := by
  rw [call_to (d := d20) (ρ := [some (.tup l), some (.int (j : Int)), some d]) (G := GP) rfl rfl rfl rfl]
  have a1 : binop .add (.tup (l.take j)) (.tup [d]) = some (.tup (l.take j ++ [d])) := b_tup (by simp; omega)
  have a2 : binop .add (.tup (l.take j ++ [d])) (.tup (l.drop (j + 1))) = some (.tup (l.take j ++ [d] ++ l.drop (j + 1))) := b_tup (by simp; omega)
  have a3 : ((j : Int) + 1) = ((j + 1 : Nat) : Int) := by omega
  simp only [d20, q_cons, q_nil, q_sexpr, q_asg, q_par, q_if, q_for, q_ret, q_raise, q_v, q_int, q_bl, q_non, q_str, q_glob, q_bin, q_neg, q_cmp, q_chain, q_and_, q_or_, q_not, q_ife, q_call, q_callB, q_tup, q_lst, q_cell, q_ix, q_slLo, q_slHi, q_slLH, q_rev, q_append, q_what, q_isX, es_nil, es_cons, ea_one, ea_cons, eo_one, eo_cons, el_nil, el_cons, it_seq, it_enum, sd_tup, sd_lst, e0, e1, e2, e3, e4, e5, e6, e7, e8, e9, e10, e11, e12, e13, e14, e15, e16, e17, e18, e19, e20, e21, e22, e23, e24, w0, w1, w2, w3, w4, w5, w6, w7, w8, w9, w10, w11, w12, w13, w14, w15, w16, w17, w18, w19, w20, w21, w22, w23, w24, look_non, look_bl, look_int, look_str, look_tup, look_lst, look_frz, look_ref, rb_ok, rb_exn, rg_ok, rg_exn, rs_next, rs_ret, rs_exn, op_some, om_some, sg_nm, sg_tp, sg_tp2, sa_nil, sa_cons, t_bl, t_non, t_int, t_tup, t_lst, f_next, f_ret, f_exn, tab1, Bool.not_true, Bool.not_false, b_add, b_sub, c_eq, c_ne, c_lt, c_le, c_gt, c_ge, c_is, c_isnot, i_tup, i_lst, eq_int, eq_bl, cb_isI, cb_tuple, cb_list, cb_lenL, cb_lenT, isN_non, isN_int, isN_tup, look_pd hd, sl_hi, a1, a3, sl_lo, a2]
end
end BhK00

set_option Elab.async false
set_option linter.all false
set_option maxRecDepth 100000
set_option maxHeartbeats 1000000
namespace BhK00
open Bh
section
variable {wf k : Nat} {th : Thk} {S : Sto}
/-- a book is drawn -/
theorem s_anybook {n : Nat} (h : Wl n S) : ∃ s l S', callF prg wf (k + 3) 19 [.ref n] th S = .ok (dBook s l) S' ∧ GoodB s l ∧ Up n S S' := by
  rw [call_to (d := d19) (ρ := [some (.ref n), none, none, none]) (G := GP) rfl rfl rfl rfl]
  obtain ⟨v, S1, t1, v0, v1, u1⟩ := s_take (wf := wf) (k := k + 1) (th := noThk) (top := (6 : Int)) h (by decide) (by decide)
  obtain ⟨many, hm⟩ : ∃ m : Nat, 1 + v = m := ⟨(1 + v).toNat, by omega⟩
  have m1 : 1 ≤ many := by omega
  have m6 : many ≤ 6 := by omega
  have it : evIt GP (subP prg) (tab prg wf (k + 2)) (.range1 (.var 1)) (k + 2) th [some (.ref n), some (.int many), none, none] S1 = .ok (rangeD 0 many) S1 := it_range1 (by simp only [q_cons, q_nil, q_sexpr, q_asg, q_par, q_if, q_for, q_ret, q_raise, q_v, q_int, q_bl, q_non, q_str, q_glob, q_bin, q_neg, q_cmp, q_chain, q_and_, q_or_, q_not, q_ife, q_call, q_callB, q_tup, q_lst, q_cell, q_ix, q_slLo, q_slHi, q_slLH, q_rev, q_append, q_what, q_isX, es_nil, es_cons, ea_one, ea_cons, eo_one, eo_cons, el_nil, el_cons, it_seq, it_enum, sd_tup, sd_lst, e0, e1, e2, e3, e4, e5, e6, e7, e8, e9, e10, e11, e12, e13, e14, e15, e16, e17, e18, e19, e20, e21, e22, e23, e24, w0, w1, w2, w3, w4, w5, w6, w7, w8, w9, w10, w11, w12, w13, w14, w15, w16, w17, w18, w19, w20, w21, w22, w23, w24, look_non, look_bl, look_int, look_str, look_tup, look_lst, look_frz, look_ref, rb_ok, rb_exn, rg_ok, rg_exn, rs_next, rs_ret, rs_exn, op_some, om_some, sg_nm, sg_tp, sg_tp2, sa_nil, sa_cons, t_bl, t_non, t_int, t_tup, t_lst, f_next, f_ret, f_exn, tab1, Bool.not_true, Bool.not_false, b_add, b_sub, c_eq, c_ne, c_lt, c_le, c_gt, c_ge, c_is, c_isnot, i_tup, i_lst, eq_int, eq_bl, cb_isI, cb_tuple, cb_list, cb_lenL, cb_lenT, isN_non, isN_int, isN_tup]) (by omega)
  generalize hE : (Ex.call 13 (.cons (.var 0) (.cons (.lst (.cons (.int 1) (.cons (.int 60) (.cons (.bin .add (.int 1) (.call 12 (.cons (.var 0) (.cons (.int 60) .nil)))) (.cons (.bin .add (.int 1) (.call 12 (.cons (.var 0) (.cons (.int 9) .nil)))) .nil))))) .nil))) = E
  obtain ⟨xs, S2, g1, g2, g3⟩ := q_comp_map (tg := .nm 3) (elt := E) (I := fun S' => Up n S1 S') (Q := fun _ x => ∃ i : Int, x = .int i ∧ 1 ≤ i ∧ i ≤ 60) it (by rw [rangeD_len]; omega) (Up.refl u1.src) fun d hd Sx hx => by
    obtain ⟨i, rfl, _, _⟩ := rangeD_mem hd
    obtain ⟨a, Sa, ta, a0, a1, ua⟩ := s_take (wf := wf) (k := k + 1) (th := noThk) (top := (60 : Int)) hx.src (by decide) (by decide)
    obtain ⟨b, Sb, tb, b0, b1, ub⟩ := s_take (wf := wf) (k := k + 1) (th := noThk) (top := (9 : Int)) ua.src (by decide) (by decide)
    obtain ⟨y, Sc, tc, hy, uc⟩ := s_one (wf := wf) (k := k) (th := noThk) (l := [.int 1, .int 60, .int (1 + a), .int (1 + b)]) ub.src (by simp) (by simp)
    refine ⟨[some (.ref n), some (.int many), none, some (.int i)], y, Sc, rfl, ?_, ((hx.trans ua).trans ub).trans uc, ?_⟩
    · subst hE
      simp only [q_cons, q_nil, q_sexpr, q_asg, q_par, q_if, q_for, q_ret, q_raise, q_v, q_int, q_bl, q_non, q_str, q_glob, q_bin, q_neg, q_cmp, q_chain, q_and_, q_or_, q_not, q_ife, q_call, q_callB, q_tup, q_lst, q_cell, q_ix, q_slLo, q_slHi, q_slLH, q_rev, q_append, q_what, q_isX, es_nil, es_cons, ea_one, ea_cons, eo_one, eo_cons, el_nil, el_cons, it_seq, it_enum, sd_tup, sd_lst, e0, e1, e2, e3, e4, e5, e6, e7, e8, e9, e10, e11, e12, e13, e14, e15, e16, e17, e18, e19, e20, e21, e22, e23, e24, w0, w1, w2, w3, w4, w5, w6, w7, w8, w9, w10, w11, w12, w13, w14, w15, w16, w17, w18, w19, w20, w21, w22, w23, w24, look_non, look_bl, look_int, look_str, look_tup, look_lst, look_frz, look_ref, rb_ok, rb_exn, rg_ok, rg_exn, rs_next, rs_ret, rs_exn, op_some, om_some, sg_nm, sg_tp, sg_tp2, sa_nil, sa_cons, t_bl, t_non, t_int, t_tup, t_lst, f_next, f_ret, f_exn, tab1, Bool.not_true, Bool.not_false, b_add, b_sub, c_eq, c_ne, c_lt, c_le, c_gt, c_ge, c_is, c_isnot, i_tup, i_lst, eq_int, eq_bl, cb_isI, cb_tuple, cb_list, cb_lenL, cb_lenT, isN_non, isN_int, isN_tup, ta, tb, tc]
    · simp only [List.mem_cons, List.not_mem_nil, or_false] at hy
      rcases hy with rfl | rfl | rfl | rfl
      · exact ⟨_, rfl, by decide⟩
      · exact ⟨_, rfl, by decide⟩
      · exact ⟨_, rfl, by omega⟩
      · exact ⟨_, rfl, by omega⟩
  obtain ⟨s, rfl⟩ := ints_ex fun d hd => by
    obtain ⟨_, _, i, h, _⟩ := g3.mem hd
    exact ⟨i, h⟩
  have hs : s.length = many := by
    have := g3.length
    rw [List.length_map, rangeD_len] at this
    exact this
  have hr : ∀ x ∈ s, 1 ≤ x ∧ x ≤ 60 := fun x hx => by
    obtain ⟨_, _, i, h, h2⟩ := g3.mem (List.mem_map.mpr ⟨x, hx, rfl⟩)
    injection h with h
    rw [h]
    exact h2
  obtain ⟨w, S3, t3, _, _, u3⟩ := s_take (wf := wf) (k := k + 1) (th := noThk) (top := (3 : Int)) g2.src (by decide) (by decide)
  have hb : d19.body = .cons (.asg (.nm 1) (.bin .add (.int 1) (.call 12 (.cons (.var 0) (.cons (.int 6) .nil))))) (.cons (.asg (.nm 2) (.callB .tuple (.cons (.comp false E (.nm 3) (.range1 (.var 1)) .nil) .nil))) (.cons (.ret (.tup (.cons (.var 2) (.cons (.ife (.cmp .eq (.call 12 (.cons (.var 0) (.cons (.int 3) .nil))) (.int 0)) (.call 14 (.cons (.var 1) .nil)) (.call 15 (.cons (.var 0) (.cons (.var 1) .nil)))) .nil)))) (.nil))) := by
    rw [← hE]
    rfl
  have um := ((u1.trans g2).trans u3)
  cases q : (w == 0) with
  | true =>
    have pp : callF prg wf (k + 2) 14 [.int many] noThk S3 = .ok (plainD many) S3 := s_plainlinks (k := k + 1) (by omega)
    refine ⟨s, (List.range many).map fun (j : Nat) => [(j : Int)], S3, ?_, ⟨by omega, by omega, hr, by rw [hs]; exact plain_good many⟩, um⟩
    simp only [hb, q_cons, q_nil, q_sexpr, q_asg, q_par, q_if, q_for, q_ret, q_raise, q_v, q_int, q_bl, q_non, q_str, q_glob, q_bin, q_neg, q_cmp, q_chain, q_and_, q_or_, q_not, q_ife, q_call, q_callB, q_tup, q_lst, q_cell, q_ix, q_slLo, q_slHi, q_slLH, q_rev, q_append, q_what, q_isX, es_nil, es_cons, ea_one, ea_cons, eo_one, eo_cons, el_nil, el_cons, it_seq, it_enum, sd_tup, sd_lst, e0, e1, e2, e3, e4, e5, e6, e7, e8, e9, e10, e11, e12, e13, e14, e15, e16, e17, e18, e19, e20, e21, e22, e23, e24, w0, w1, w2, w3, w4, w5, w6, w7, w8, w9, w10, w11, w12, w13, w14, w15, w16, w17, w18, w19, w20, w21, w22, w23, w24, look_non, look_bl, look_int, look_str, look_tup, look_lst, look_frz, look_ref, rb_ok, rb_exn, rg_ok, rg_exn, rs_next, rs_ret, rs_exn, op_some, om_some, sg_nm, sg_tp, sg_tp2, sa_nil, sa_cons, t_bl, t_non, t_int, t_tup, t_lst, f_next, f_ret, f_exn, tab1, Bool.not_true, Bool.not_false, b_add, b_sub, c_eq, c_ne, c_lt, c_le, c_gt, c_ge, c_is, c_isnot, i_tup, i_lst, eq_int, eq_bl, cb_isI, cb_tuple, cb_list, cb_lenL, cb_lenT, isN_non, isN_int, isN_tup, t1, hm, g1, t3, q, pp]
    unfold dBook
    rw [← plain_eq]
    rfl
  | false =>
    obtain ⟨l, S4, t4, gl, u4⟩ := s_drawnlinks (wf := wf) (k := k) (th := noThk) (many := many) u3.src m1 m6
    refine ⟨s, l, S4, ?_, ⟨by omega, by omega, hr, by rw [hs]; exact gl⟩, um.trans u4⟩
    simp only [hb, q_cons, q_nil, q_sexpr, q_asg, q_par, q_if, q_for, q_ret, q_raise, q_v, q_int, q_bl, q_non, q_str, q_glob, q_bin, q_neg, q_cmp, q_chain, q_and_, q_or_, q_not, q_ife, q_call, q_callB, q_tup, q_lst, q_cell, q_ix, q_slLo, q_slHi, q_slLH, q_rev, q_append, q_what, q_isX, es_nil, es_cons, ea_one, ea_cons, eo_one, eo_cons, el_nil, el_cons, it_seq, it_enum, sd_tup, sd_lst, e0, e1, e2, e3, e4, e5, e6, e7, e8, e9, e10, e11, e12, e13, e14, e15, e16, e17, e18, e19, e20, e21, e22, e23, e24, w0, w1, w2, w3, w4, w5, w6, w7, w8, w9, w10, w11, w12, w13, w14, w15, w16, w17, w18, w19, w20, w21, w22, w23, w24, look_non, look_bl, look_int, look_str, look_tup, look_lst, look_frz, look_ref, rb_ok, rb_exn, rg_ok, rg_exn, rs_next, rs_ret, rs_exn, op_some, om_some, sg_nm, sg_tp, sg_tp2, sa_nil, sa_cons, t_bl, t_non, t_int, t_tup, t_lst, f_next, f_ret, f_exn, tab1, Bool.not_true, Bool.not_false, b_add, b_sub, c_eq, c_ne, c_lt, c_le, c_gt, c_ge, c_is, c_isnot, i_tup, i_lst, eq_int, eq_bl, cb_isI, cb_tuple, cb_list, cb_lenL, cb_lenT, isN_non, isN_int, isN_tup, t1, hm, g1, t3, q, t4]
    rfl
theorem lv_four {n : Nat} : Lv n (.str "4") := .str _ _ (by decide +kernel) (by decide +kernel)
/-- steps spoilt, or not -/
theorem s_spoiltsteps {n : Nat} {s : List Int} (h : Wl n S) (h1 : 1 ≤ s.length) (h6 : s.length ≤ 6) (hr : ∀ x ∈ s, 1 ≤ x ∧ x ≤ 60) : ∃ d S', callF prg wf (k + 3) 21 [.ref n, dRow s] th S = .ok d S' ∧ Lv 2 d ∧ Up n S S' := by
  rw [call_to (d := d21) (ρ := [some (.ref n), some (dRow s), none]) (G := GP) rfl rfl rfl rfl]
  have ls : Lv 2 (dRow s) := (steps_lv (by omega) hr).up
  have hl : (s.map D.int).length ≤ 6 := by rw [List.length_map]; exact h6
  obtain ⟨odd, S1, t1, ho, u1⟩ := s_one (wf := wf) (k := k) (th := noThk) (l := [.int 0, .int 61, .int (-1), .non, .str "4", .int 100000000000000000000, .bl true, .tup [.int 4]]) h (by simp) (by simp)
  have lo : Lv 1 odd := by
    simp only [List.mem_cons, List.not_mem_nil, or_false] at ho
    rcases ho with rfl | rfl | rfl | rfl | rfl | rfl | rfl | rfl
    · exact .int _ _ (by decide)
    · exact .int _ _ (by decide)
    · exact .int _ _ (by decide)
    · exact .non _
    · exact lv_four
    · exact .int _ _ (by decide)
    · exact .bl _ _
    · exact .tup _ _ (by simp) (by simp; exact .int _ _ (by decide))
  obtain ⟨v, S2, t2, v0, v1, u2⟩ := s_take (wf := wf) (k := k + 1) (th := noThk) (top := (((s.map D.int).length : Nat) : Int)) u1.src (by rw [List.length_map]; omega) (by omega)
  obtain ⟨j, rfl⟩ : ∃ j : Nat, v = j := ⟨v.toNat, by omega⟩
  have hj : j < (s.map D.int).length := by omega
  have tp := s_put (wf := wf) (k := k + 1) (th := noThk) (S := S2) (l := s.map .int) (j := j) lo.pd hj (by omega)
  have m3 : binop .mul (.lst [.tup ((s.map D.int).take j ++ [odd] ++ (s.map D.int).drop (j + 1))]) (.int 3) = some (.lst [.tup ((s.map D.int).take j ++ [odd] ++ (s.map D.int).drop (j + 1)), .tup ((s.map D.int).take j ++ [odd] ++ (s.map D.int).drop (j + 1)), .tup ((s.map D.int).take j ++ [odd] ++ (s.map D.int).drop (j + 1))]) := b_rep (k := 3) (by decide) (by simp)
  have m4 : binop .add (.tup (s.map .int)) (.tup [.int 4]) = some (.tup (s.map .int ++ [.int 4])) := b_tup (by simp; omega)
  have m5 : slice (.tup (s.map .int)) (some 1) none S2 = some (.tup ((s.map .int).drop 1)) := sl_lo (j := 1)
  have m6 : ∀ a b c d e f g : D, binop .add (.lst [a, b, c]) (.lst [d, e, f, g]) = some (.lst [a, b, c, d, e, f, g]) := fun _ _ _ _ _ _ _ => b_lst (by simp)
  generalize hP : (D.tup ((s.map D.int).take j ++ [odd] ++ (s.map D.int).drop (j + 1))) = P at tp m3
  obtain ⟨d, S3, t3, hd, u3⟩ := s_one (wf := wf) (k := k) (th := noThk) (l := [P, P, P, .tup (s.map .int ++ [.int 4]), .tup ((s.map .int).drop 1), .non, .tup []]) u2.src (by simp) (by simp)
  refine ⟨d, S3, ?_, ?_, (u1.trans u2).trans u3⟩
  · unfold dRow at *
    simp only [d21, q_cons, q_nil, q_sexpr, q_asg, q_par, q_if, q_for, q_ret, q_raise, q_v, q_int, q_bl, q_non, q_str, q_glob, q_bin, q_neg, q_cmp, q_chain, q_and_, q_or_, q_not, q_ife, q_call, q_callB, q_tup, q_lst, q_cell, q_ix, q_slLo, q_slHi, q_slLH, q_rev, q_append, q_what, q_isX, es_nil, es_cons, ea_one, ea_cons, eo_one, eo_cons, el_nil, el_cons, it_seq, it_enum, sd_tup, sd_lst, e0, e1, e2, e3, e4, e5, e6, e7, e8, e9, e10, e11, e12, e13, e14, e15, e16, e17, e18, e19, e20, e21, e22, e23, e24, w0, w1, w2, w3, w4, w5, w6, w7, w8, w9, w10, w11, w12, w13, w14, w15, w16, w17, w18, w19, w20, w21, w22, w23, w24, look_non, look_bl, look_int, look_str, look_tup, look_lst, look_frz, look_ref, rb_ok, rb_exn, rg_ok, rg_exn, rs_next, rs_ret, rs_exn, op_some, om_some, sg_nm, sg_tp, sg_tp2, sa_nil, sa_cons, t_bl, t_non, t_int, t_tup, t_lst, f_next, f_ret, f_exn, tab1, Bool.not_true, Bool.not_false, b_add, b_sub, c_eq, c_ne, c_lt, c_le, c_gt, c_ge, c_is, c_isnot, i_tup, i_lst, eq_int, eq_bl, cb_isI, cb_tuple, cb_list, cb_lenL, cb_lenT, isN_non, isN_int, isN_tup, b_10_20, t1, look_pd lo.pd, t2, tp, m3, m4, m5, m6, t3]
  · have lp : Lv 2 P := by
      rw [← hP]
      exact Lv.put ls lo hj
    simp only [List.mem_cons, List.not_mem_nil, or_false] at hd
    rcases hd with rfl | rfl | rfl | rfl | rfl | rfl | rfl
    · exact lp
    · exact lp
    · exact lp
    · refine .tup _ _ (by simp; omega) fun x hx => ?_
      rcases List.mem_append.mp hx with q | q
      · exact Lv_mem (steps_lv (by omega) hr) x q
      · simp at q
        rw [q]
        exact .int _ _ (by decide)
    · refine .tup _ _ (by simp; omega) fun x hx => ?_
      exact Lv_mem (steps_lv (by omega) hr) x (List.mem_of_mem_drop hx)
    · exact .non _
    · exact .tup _ _ (by simp) (by simp)
theorem str_small {j : Nat} (h : j ≤ 6) : ∃ s, (∀ S, callB .str [.int (j : Int)] S = .ok (.str s) S) ∧ ∀ n, Lv n (.str s) := by
  refine ⟨toString (j : Int), fun S => ?_, fun n => ?_⟩
  · have e : callB .str [.int (j : Int)] S = (if (j : Int).natAbs.log2 < 1920 then .ok (.str (toString (j : Int))) S else .bad) := (rfl)
    rw [e, if_pos]
    match j, h with
    | 0, _ => decide
    | 1, _ => decide
    | 2, _ => decide
    | 3, _ => decide
    | 4, _ => decide
    | 5, _ => decide
    | 6, _ => decide
  · match j, h with
    | 0, _ => exact .str _ _ (by decide +kernel) (by decide +kernel)
    | 1, _ => exact .str _ _ (by decide +kernel) (by decide +kernel)
    | 2, _ => exact .str _ _ (by decide +kernel) (by decide +kernel)
    | 3, _ => exact .str _ _ (by decide +kernel) (by decide +kernel)
    | 4, _ => exact .str _ _ (by decide +kernel) (by decide +kernel)
    | 5, _ => exact .str _ _ (by decide +kernel) (by decide +kernel)
    | 6, _ => exact .str _ _ (by decide +kernel) (by decide +kernel)
theorem lv_links {n : Nat} : Lv n (.str "links") := .str _ _ (by decide +kernel) (by decide +kernel)
theorem lv_app {n : Nat} {a b : List D} (h : a.length + b.length ≤ 10) (ha : ∀ x ∈ a, Lv n x) (hb : ∀ x ∈ b, Lv n x) : Lv (n + 1) (.tup (a ++ b)) := .tup _ _ (by simpa using h) fun x hx => by
  rcases List.mem_append.mp hx with q | q
  · exact ha x q
  · exact hb x q
/-- links spoilt, or not -/
theorem s_spoiltlinks {n m : Nat} {l : List (List Int)} (h : Wl n S) (g : GoodL m l) (h1 : 1 ≤ m) (h6 : m ≤ 6) : ∃ d S', callF prg wf (k + 3) 22 [.ref n, dLinks l] th S = .ok d S' ∧ Lv 2 d ∧ Up n S S' := by
  rw [call_to (d := d22) (ρ := [some (.ref n), some (dLinks l), none, none, none, none, none]) (G := GP) rfl rfl rfl rfl]
  have ls : Lv 2 (dLinks l) := links_lv g (by omega)
  have hl2 : l.length = m := g.len
  have hl : (l.map dRow).length = m := by rw [List.length_map]; exact g.len
  obtain ⟨v, S1, t1, v0, v1, u1⟩ := s_take (wf := wf) (k := k + 1) (th := noThk) (top := (((l.map dRow).length : Nat) : Int)) h (by omega) (by omega)
  obtain ⟨j, rfl⟩ : ∃ j : Nat, v = j := ⟨v.toNat, by omega⟩
  have hj : j < (l.map dRow).length := by omega
  have hjl : j < l.length := by rw [List.length_map] at hj; exact hj
  have xi : ∀ S, index (.tup (l.map dRow)) (.int (j : Int)) S = some (dRow l[j]) := fun S => by
    rw [index_nat rfl hj, List.getElem_map]
  obtain ⟨r, hr⟩ : ∃ r, l[j] = r := ⟨_, rfl⟩
  have ok : RowOk m j r := g.row j r (by rw [List.getElem?_eq_getElem hjl, hr])
  have hrl : (r.map D.int).length ≤ 6 := by
    have := ok.len
    rw [List.length_map]
    omega
  have lr : ∀ x ∈ r.map D.int, Lv 0 x := fun x hx => by
    obtain ⟨i, hi, rfl⟩ := List.mem_map.mp hx
    have := ok.2.1 i hi
    exact .int _ _ (by omega)
  obtain ⟨sj, c1, lsj⟩ := str_small (j := j) (by omega)
  have a1 : binop .add (.tup (r.map .int)) (.tup [.int ((l.map dRow).length : Nat)]) = some (.tup (r.map .int ++ [.int ((l.map dRow).length : Nat)])) := b_tup (by simp at hrl ⊢; omega)
  have a2 : binop .add (.tup (r.map .int)) (.tup ((r.map .int).take 1)) = some (.tup (r.map .int ++ (r.map .int).take 1)) := b_tup (by simp at hrl ⊢; omega)
  have a3 : binop .add (.tup (r.map D.int).reverse) (.tup [.int (j : Int)]) = some (.tup ((r.map .int).reverse ++ [.int (j : Int)])) := b_tup (by simp at hrl ⊢; omega)
  have a4 : binop .add (.tup [.int (-1)]) (.tup (r.map .int)) = some (.tup ([.int (-1)] ++ r.map .int)) := b_tup (by simp at hrl ⊢; omega)
  have a5 : ∀ S, slice (.tup (r.map .int)) none (some 1) S = some (.tup ((r.map .int).take 1)) := fun S => sl_hi (j := 1)
  obtain ⟨odd, S2, t2, ho, u2⟩ := s_one (wf := wf) (k := k) (th := noThk) (l := [.tup [], .tup (r.map .int ++ [.int ((l.map dRow).length : Nat)]), .tup (r.map .int ++ (r.map .int).take 1), .tup ((r.map .int).reverse ++ [.int (j : Int)]), .non, .int (j : Int), .tup ([.int (-1)] ++ r.map .int), .tup [.str sj], .tup [.bl true]]) u1.src (by simp) (by simp)
  have lo : Lv 1 odd := by
    simp only [List.mem_cons, List.not_mem_nil, or_false] at ho
    rcases ho with rfl | rfl | rfl | rfl | rfl | rfl | rfl | rfl | rfl
    · exact .tup _ _ (by simp) (by simp)
    · exact lv_app (by simp at hrl ⊢; omega) lr (by simp; exact .int _ _ (by omega))
    · exact lv_app (by simp at hrl ⊢; omega) lr fun x hx => lr x (List.mem_of_mem_take hx)
    · exact lv_app (by simp at hrl ⊢; omega) (fun x hx => lr x (List.mem_reverse.mp hx)) (by simp; exact .int _ _ (by omega))
    · exact .non _
    · exact .int _ _ (by omega)
    · exact lv_app (by simp at hrl ⊢; omega) (by simp; exact .int _ _ (by decide)) lr
    · exact .tup _ _ (by simp) (by simp; exact lsj _)
    · exact .tup _ _ (by simp) (by simp; exact .bl _ _)
  have c2 : ∀ S, ev GP (subP prg) (tab prg wf (k + 2)) (.comp false (.var 6) (.nm 6) (.seq (.var 2)) (.cons (.cmp .ne (.var 6) (.var 4)) .nil)) (k + 2) th [some (.ref n), some (.tup (l.map dRow)), some (.tup (r.map .int)), some odd, some (.int (j : Int)), some (.int ((l.map dRow).length : Nat)), none] S = .ok (.lst ((r.map D.int).filter fun d => match d with
      | .int i => !(i == (j : Int))
      | _ => true)) S := fun S => by
    have := q_comp (G := GP) (sub := subP prg) (C := tab prg wf (k + 2)) (n := k + 2) (th := th) (ρ := [some (.ref n), some (.tup (l.map dRow)), some (.tup (r.map .int)), some odd, some (.int (j : Int)), some (.int ((l.map dRow).length : Nat)), none]) (S := S) (tg := .nm 6) (it := .seq (.var 2)) (elt := .var 6) (conds := (.cons (.cmp .ne (.var 6) (.var 4)) .nil)) (ds := r.map .int) (p := fun d => match d with
      | .int i => !(i == (j : Int))
      | _ => true) (f := fun d => d) (by simp only [q_cons, q_nil, q_sexpr, q_asg, q_par, q_if, q_for, q_ret, q_raise, q_v, q_int, q_bl, q_non, q_str, q_glob, q_bin, q_neg, q_cmp, q_chain, q_and_, q_or_, q_not, q_ife, q_call, q_callB, q_tup, q_lst, q_cell, q_ix, q_slLo, q_slHi, q_slLH, q_rev, q_append, q_what, q_isX, es_nil, es_cons, ea_one, ea_cons, eo_one, eo_cons, el_nil, el_cons, it_seq, it_enum, sd_tup, sd_lst, e0, e1, e2, e3, e4, e5, e6, e7, e8, e9, e10, e11, e12, e13, e14, e15, e16, e17, e18, e19, e20, e21, e22, e23, e24, w0, w1, w2, w3, w4, w5, w6, w7, w8, w9, w10, w11, w12, w13, w14, w15, w16, w17, w18, w19, w20, w21, w22, w23, w24, look_non, look_bl, look_int, look_str, look_tup, look_lst, look_frz, look_ref, rb_ok, rb_exn, rg_ok, rg_exn, rs_next, rs_ret, rs_exn, op_some, om_some, sg_nm, sg_tp, sg_tp2, sa_nil, sa_cons, t_bl, t_non, t_int, t_tup, t_lst, f_next, f_ret, f_exn, tab1, Bool.not_true, Bool.not_false, b_add, b_sub, c_eq, c_ne, c_lt, c_le, c_gt, c_ge, c_is, c_isnot, i_tup, i_lst, eq_int, eq_bl, cb_isI, cb_tuple, cb_list, cb_lenL, cb_lenT, isN_non, isN_int, isN_tup]) (by omega) fun d hd => by
        obtain ⟨i, hi, rfl⟩ := List.mem_map.mp hd
        refine ⟨[some (.ref n), some (.tup (l.map dRow)), some (.tup (r.map .int)), some odd, some (.int (j : Int)), some (.int ((l.map dRow).length : Nat)), some (.int i)], rfl, ?_, fun _ => by simp only [q_cons, q_nil, q_sexpr, q_asg, q_par, q_if, q_for, q_ret, q_raise, q_v, q_int, q_bl, q_non, q_str, q_glob, q_bin, q_neg, q_cmp, q_chain, q_and_, q_or_, q_not, q_ife, q_call, q_callB, q_tup, q_lst, q_cell, q_ix, q_slLo, q_slHi, q_slLH, q_rev, q_append, q_what, q_isX, es_nil, es_cons, ea_one, ea_cons, eo_one, eo_cons, el_nil, el_cons, it_seq, it_enum, sd_tup, sd_lst, e0, e1, e2, e3, e4, e5, e6, e7, e8, e9, e10, e11, e12, e13, e14, e15, e16, e17, e18, e19, e20, e21, e22, e23, e24, w0, w1, w2, w3, w4, w5, w6, w7, w8, w9, w10, w11, w12, w13, w14, w15, w16, w17, w18, w19, w20, w21, w22, w23, w24, look_non, look_bl, look_int, look_str, look_tup, look_lst, look_frz, look_ref, rb_ok, rb_exn, rg_ok, rg_exn, rs_next, rs_ret, rs_exn, op_some, om_some, sg_nm, sg_tp, sg_tp2, sa_nil, sa_cons, t_bl, t_non, t_int, t_tup, t_lst, f_next, f_ret, f_exn, tab1, Bool.not_true, Bool.not_false, b_add, b_sub, c_eq, c_ne, c_lt, c_le, c_gt, c_ge, c_is, c_isnot, i_tup, i_lst, eq_int, eq_bl, cb_isI, cb_tuple, cb_list, cb_lenL, cb_lenT, isN_non, isN_int, isN_tup]⟩
        simp only [q_cons, q_nil, q_sexpr, q_asg, q_par, q_if, q_for, q_ret, q_raise, q_v, q_int, q_bl, q_non, q_str, q_glob, q_bin, q_neg, q_cmp, q_chain, q_and_, q_or_, q_not, q_ife, q_call, q_callB, q_tup, q_lst, q_cell, q_ix, q_slLo, q_slHi, q_slLH, q_rev, q_append, q_what, q_isX, es_nil, es_cons, ea_one, ea_cons, eo_one, eo_cons, el_nil, el_cons, it_seq, it_enum, sd_tup, sd_lst, e0, e1, e2, e3, e4, e5, e6, e7, e8, e9, e10, e11, e12, e13, e14, e15, e16, e17, e18, e19, e20, e21, e22, e23, e24, w0, w1, w2, w3, w4, w5, w6, w7, w8, w9, w10, w11, w12, w13, w14, w15, w16, w17, w18, w19, w20, w21, w22, w23, w24, look_non, look_bl, look_int, look_str, look_tup, look_lst, look_frz, look_ref, rb_ok, rb_exn, rg_ok, rg_exn, rs_next, rs_ret, rs_exn, op_some, om_some, sg_nm, sg_tp, sg_tp2, sa_nil, sa_cons, t_bl, t_non, t_int, t_tup, t_lst, f_next, f_ret, f_exn, tab1, Bool.not_true, Bool.not_false, b_add, b_sub, c_eq, c_ne, c_lt, c_le, c_gt, c_ge, c_is, c_isnot, i_tup, i_lst, eq_int, eq_bl, cb_isI, cb_tuple, cb_list, cb_lenL, cb_lenT, isN_non, isN_int, isN_tup]
        cases (i == (j : Int)) <;> rfl
    rw [List.map_id'] at this
    exact this
  generalize hF : ((r.map D.int).filter fun d => match d with
      | .int i => !(i == (j : Int))
      | _ => true) = F at c2
  generalize hE : (Ex.comp false (.var 6) (.nm 6) (.seq (.var 2)) (.cons (.cmp .ne (.var 6) (.var 4)) .nil)) = E at c2
  have lF : Lv 1 (.tup F) := by
    rw [← hF]
    exact .tup _ _ (Nat.le_trans (List.length_filter_le ..) (by omega)) fun x hx => lr x (List.mem_filter.mp hx).1
  obtain ⟨odd2, S3, t3, ho2, u3⟩ := s_one (wf := wf) (k := k) (th := noThk) (l := [odd, odd, .tup F]) u2.src (by simp) (by simp)
  have lo2 : Lv 1 odd2 := by
    simp only [List.mem_cons, List.not_mem_nil, or_false] at ho2
    rcases ho2 with rfl | rfl | rfl
    · exact lo
    · exact lo
    · exact lF
  have tp := s_put (wf := wf) (k := k + 1) (th := noThk) (S := S3) (l := l.map dRow) (j := j) lo2.pd hj (by omega)
  have m3 : binop .mul (.lst [.tup ((l.map dRow).take j ++ [odd2] ++ (l.map dRow).drop (j + 1))]) (.int 3) = some (.lst [.tup ((l.map dRow).take j ++ [odd2] ++ (l.map dRow).drop (j + 1)), .tup ((l.map dRow).take j ++ [odd2] ++ (l.map dRow).drop (j + 1)), .tup ((l.map dRow).take j ++ [odd2] ++ (l.map dRow).drop (j + 1))]) := b_rep (k := 3) (by decide) (by simp)
  have m4 : binop .add (.tup (l.map dRow)) (.tup [.tup [.int ((l.map dRow).length : Nat)]]) = some (.tup (l.map dRow ++ [.tup [.int ((l.map dRow).length : Nat)]])) := b_tup (by simp; omega)
  have m5 : slice (.tup (l.map dRow)) (some 1) none S3 = some (.tup ((l.map dRow).drop 1)) := sl_lo (j := 1)
  have m6 : ∀ a b c d e f : D, binop .add (.lst [a, b, c]) (.lst [d, e, f]) = some (.lst [a, b, c, d, e, f]) := fun _ _ _ _ _ _ => b_lst (by simp)
  have lp : Lv 2 (.tup ((l.map dRow).take j ++ [odd2] ++ (l.map dRow).drop (j + 1))) := Lv.put ls lo2 hj
  generalize hP : (D.tup ((l.map dRow).take j ++ [odd2] ++ (l.map dRow).drop (j + 1))) = P at tp m3 lp
  obtain ⟨d, S4, t4, hd, u4⟩ := s_one (wf := wf) (k := k) (th := noThk) (l := [P, P, P, .tup (l.map dRow ++ [.tup [.int ((l.map dRow).length : Nat)]]), .tup ((l.map dRow).drop 1), .str "links"]) u3.src (by simp) (by simp)
  have lk : ∀ S, look (some (some (dRow r))) S = .ok (.tup (r.map .int)) S := fun _ => (rfl)
  refine ⟨d, S4, ?_, ?_, ((u1.trans u2).trans u3).trans u4⟩
  · have hb : d22.body = .cons (.par [4, 5] (.cons (.call 12 (.cons (.var 0) (.cons (.callB .len (.cons (.var 1) .nil)) .nil))) (.cons (.callB .len (.cons (.var 1) .nil)) (.nil)))) (.cons (.asg (.nm 2) (.ix (.var 1) (.var 4))) (.cons (.asg (.nm 3) (.call 13 (.cons (.var 0) (.cons (.lst (.cons (.tup .nil) (.cons (.bin .add (.var 2) (.tup (.cons (.var 5) .nil))) (.cons (.bin .add (.var 2) (.slHi (.var 2) (.int 1))) (.cons (.bin .add (.rev (.var 2)) (.tup (.cons (.var 4) .nil))) (.cons .non (.cons (.var 4) (.cons (.bin .add (.tup (.cons (.neg (.int 1)) .nil)) (.var 2)) (.cons (.tup (.cons (.callB .str (.cons (.var 4) .nil)) .nil)) (.cons (.tup (.cons (.bl true) .nil)) .nil)))))))))) .nil)))) (.cons (.asg (.nm 3) (.call 13 (.cons (.var 0) (.cons (.lst (.cons (.var 3) (.cons (.var 3) (.cons (.callB .tuple (.cons E .nil)) .nil)))) .nil)))) (.cons (.ret (.call 13 (.cons (.var 0) (.cons (.bin .add (.bin .mul (.lst (.cons (.call 20 (.cons (.var 1) (.cons (.var 4) (.cons (.var 3) .nil)))) .nil)) (.int 3)) (.lst (.cons (.bin .add (.var 1) (.tup (.cons (.tup (.cons (.var 5) .nil)) .nil))) (.cons (.slLo (.var 1) (.int 1)) (.cons (.str "links") .nil))))) .nil)))) (.nil))))) := by
      rw [← hE]
      rfl
    unfold dLinks
    simp only [hb, q_cons, q_nil, q_sexpr, q_asg, q_par, q_if, q_for, q_ret, q_raise, q_v, q_int, q_bl, q_non, q_str, q_glob, q_bin, q_neg, q_cmp, q_chain, q_and_, q_or_, q_not, q_ife, q_call, q_callB, q_tup, q_lst, q_cell, q_ix, q_slLo, q_slHi, q_slLH, q_rev, q_append, q_what, q_isX, es_nil, es_cons, ea_one, ea_cons, eo_one, eo_cons, el_nil, el_cons, it_seq, it_enum, sd_tup, sd_lst, e0, e1, e2, e3, e4, e5, e6, e7, e8, e9, e10, e11, e12, e13, e14, e15, e16, e17, e18, e19, e20, e21, e22, e23, e24, w0, w1, w2, w3, w4, w5, w6, w7, w8, w9, w10, w11, w12, w13, w14, w15, w16, w17, w18, w19, w20, w21, w22, w23, w24, look_non, look_bl, look_int, look_str, look_tup, look_lst, look_frz, look_ref, rb_ok, rb_exn, rg_ok, rg_exn, rs_next, rs_ret, rs_exn, op_some, om_some, sg_nm, sg_tp, sg_tp2, sa_nil, sa_cons, t_bl, t_non, t_int, t_tup, t_lst, f_next, f_ret, f_exn, tab1, Bool.not_true, Bool.not_false, b_add, b_sub, c_eq, c_ne, c_lt, c_le, c_gt, c_ge, c_is, c_isnot, i_tup, i_lst, eq_int, eq_bl, cb_isI, cb_tuple, cb_list, cb_lenL, cb_lenT, isN_non, isN_int, isN_tup, t1, xi, hr, lk, a1, a2, a3, a4, a5, c1, t2, look_pd lo.pd, c2, t3, look_pd lo2.pd, tp, m3, m4, m5, m6, t4, dRow]
  · simp only [List.mem_cons, List.not_mem_nil, or_false] at hd
    rcases hd with rfl | rfl | rfl | rfl | rfl | rfl
    · exact lp
    · exact lp
    · exact lp
    · refine .tup _ _ (by simp; omega) fun x hx => ?_
      rcases List.mem_append.mp hx with q | q
      · obtain ⟨m', e, _, h2⟩ := ls.mem
        injection e with e
        subst e
        exact h2 x q
      · simp at q
        rw [q]
        exact .tup _ _ (by simp) (by simp; exact .int _ _ (by omega))
    · obtain ⟨m', e, _, h2⟩ := ls.mem
      injection e with e
      subst e
      exact .tup _ _ (by simp; omega) fun x hx => h2 x (List.mem_of_mem_drop hx)
    · exact lv_links
end
end BhK00

set_option Elab.async false
set_option linter.all false
set_option maxRecDepth 100000
set_option maxHeartbeats 1000000
namespace BhK00
open Bh
section
variable {wf k : Nat} {th : Thk} {S : Sto}
abbrev chk (i : Nat) : Sms := .cons (.if_ (.not (.call 24 (.cons (.var i) .nil))) (.cons (.ret (.bl false)) (.nil)) (.nil)) (.nil)
theorem lv_pair {n : Nat} {a b : D} (ha : Lv n a) (hb : Lv n b) : Lv (n + 1) (.tup [a, b]) := .tup _ _ (by simp) (by simp; exact ⟨ha, hb⟩)
theorem lv_book {n : Nat} : Lv n (.str "book") := .str _ _ (by decide +kernel) (by decide +kernel)
theorem s_law (ns : List Int) : ∃ S', callF prg wf (k + 11) 26 [.frz (ns.map .int)] th S = .ok (.bl true) S' := by
  rw [call_to (d := d26) (ρ := [some (.frz (ns.map .int)), none, none, none, none, none, none, none]) (G := GP) rfl rfl rfl rfl]
  obtain ⟨a, b, t1, a0, b0, b1⟩ := s_pool (wf := wf) (k := k + 9) (th := noThk) (S := S) (ns := ns) (K := 0) (by decide)
  have t1 : callF prg wf (k + 10) 11 [.frz (ns.map .int), .int 0] noThk S = .ok (.ref S.length) (S ++ [.lst [.int a, .int b]]) := t1
  have wl1 : Wl S.length (S ++ [.lst [.int a, .int b]]) := ⟨a, b, app_last, a0, b0, b1⟩
  generalize hn : S.length = n at t1 wl1
  generalize (S ++ [O.lst [.int a, .int b]]) = S1 at t1 wl1
  obtain ⟨s, l, S2, t2, gb, u2⟩ := s_anybook (wf := wf) (k := k + 7) (th := noThk) wl1
  have lb := book_lv gb
  have ls : Lv 2 (dRow s) := (steps_lv (by have := gb.six; omega) gb.rng).up
  have ll : Lv 2 (dLinks l) := links_lv gb.lk (by have := gb.six; omega)
  have cW : callF prg wf (k + 10) 18 [dBook s l] noThk S2 = .ok .non S2 := by
    have := s_wrong (wf := wf) (k := k + 7) (th := noThk) (S := S2) lb (by decide)
    rw [good_fault gb] at this
    exact this
  have cT : ∀ (t : D) (S : Sto), Lv 3 t → callF prg wf (k + 10) 24 [t] noThk S = .ok (.bl true) S := fun t S h => s_thing (wf := wf) (k := k + 1) (th := noThk) (S := S) h
  have cP : ∀ (t : D) (S : Sto), Lv 2 t → callF prg wf (k + 10) 25 [t] noThk S = .ok (.bl true) S := fun t S h => s_plainright (wf := wf) (k := k) (th := noThk) (S := S) h
  have x0 : ∀ S, index (dBook s l) (.int 0) S = some (dRow s) := fun S => index_nat (j := 0) (i_tup [dRow s, dLinks l] S) (by simp)
  have x1 : ∀ S, index (dBook s l) (.int 1) S = some (dLinks l) := fun S => index_nat (j := 1) (i_tup [dRow s, dLinks l] S) (by simp)
  have lkb : ∀ S, look (some (some (dBook s l))) S = .ok (dBook s l) S := fun _ => (rfl)
  have ck5 : ∀ (ρ : Env) (t : D) (S : Sto), ρ[5]? = some (some t) → Lv 3 t → exss GP (subP prg) (tab prg wf (k + 10)) wf (chk 5) (k + 10) th ρ S = .next ρ S := fun ρ t S h ht => by
    simp only [chk, q_cons, q_nil, q_sexpr, q_asg, q_par, q_if, q_for, q_ret, q_raise, q_v, q_int, q_bl, q_non, q_str, q_glob, q_bin, q_neg, q_cmp, q_chain, q_and_, q_or_, q_not, q_ife, q_call, q_callB, q_tup, q_lst, q_cell, q_ix, q_slLo, q_slHi, q_slLH, q_rev, q_append, q_what, q_isX, es_nil, es_cons, ea_one, ea_cons, eo_one, eo_cons, el_nil, el_cons, it_seq, it_enum, sd_tup, sd_lst, e0, e1, e2, e3, e4, e5, e6, e7, e8, e9, e10, e11, e12, e13, e14, e15, e16, e17, e18, e19, e20, e21, e22, e23, e24, w0, w1, w2, w3, w4, w5, w6, w7, w8, w9, w10, w11, w12, w13, w14, w15, w16, w17, w18, w19, w20, w21, w22, w23, w24, look_non, look_bl, look_int, look_str, look_tup, look_lst, look_frz, look_ref, rb_ok, rb_exn, rg_ok, rg_exn, rs_next, rs_ret, rs_exn, op_some, om_some, sg_nm, sg_tp, sg_tp2, sa_nil, sa_cons, t_bl, t_non, t_int, t_tup, t_lst, f_next, f_ret, f_exn, tab1, Bool.not_true, Bool.not_false, b_add, b_sub, c_eq, c_ne, c_lt, c_le, c_gt, c_ge, c_is, c_isnot, i_tup, i_lst, eq_int, eq_bl, cb_isI, cb_tuple, cb_list, cb_lenL, cb_lenT, isN_non, isN_int, isN_tup, h, look_pd ht.pd, cT t S ht]
  have ck4 : ∀ (ρ : Env) (t : D) (S : Sto), ρ[4]? = some (some t) → Lv 3 t → exss GP (subP prg) (tab prg wf (k + 10)) wf (chk 4) (k + 10) th ρ S = .next ρ S := fun ρ t S h ht => by
    simp only [chk, q_cons, q_nil, q_sexpr, q_asg, q_par, q_if, q_for, q_ret, q_raise, q_v, q_int, q_bl, q_non, q_str, q_glob, q_bin, q_neg, q_cmp, q_chain, q_and_, q_or_, q_not, q_ife, q_call, q_callB, q_tup, q_lst, q_cell, q_ix, q_slLo, q_slHi, q_slLH, q_rev, q_append, q_what, q_isX, es_nil, es_cons, ea_one, ea_cons, eo_one, eo_cons, el_nil, el_cons, it_seq, it_enum, sd_tup, sd_lst, e0, e1, e2, e3, e4, e5, e6, e7, e8, e9, e10, e11, e12, e13, e14, e15, e16, e17, e18, e19, e20, e21, e22, e23, e24, w0, w1, w2, w3, w4, w5, w6, w7, w8, w9, w10, w11, w12, w13, w14, w15, w16, w17, w18, w19, w20, w21, w22, w23, w24, look_non, look_bl, look_int, look_str, look_tup, look_lst, look_frz, look_ref, rb_ok, rb_exn, rg_ok, rg_exn, rs_next, rs_ret, rs_exn, op_some, om_some, sg_nm, sg_tp, sg_tp2, sa_nil, sa_cons, t_bl, t_non, t_int, t_tup, t_lst, f_next, f_ret, f_exn, tab1, Bool.not_true, Bool.not_false, b_add, b_sub, c_eq, c_ne, c_lt, c_le, c_gt, c_ge, c_is, c_isnot, i_tup, i_lst, eq_int, eq_bl, cb_isI, cb_tuple, cb_list, cb_lenL, cb_lenT, isN_non, isN_int, isN_tup, h, look_pd ht.pd, cT t S ht]
  have it6 : ∀ (ρ : Env) (S : Sto), evIt GP (subP prg) (tab prg wf (k + 10)) (.range1 (.int 6)) (k + 10) th ρ S = .ok (rangeD 0 6) S := fun ρ S => it_range1 (n := 6) (q_int 6) (by decide)
  generalize hB : (Sms.cons (.par [6, 7] (.cons (.call 21 (.cons (.var 1) (.cons (.ix (.var 2) (.int 0)) .nil))) (.cons (.call 22 (.cons (.var 1) (.cons (.ix (.var 2) (.int 1)) .nil))) (.nil)))) (.cons (.for_ (.nm 5) (.seq (.lst (.cons (.tup (.cons (.var 6) (.cons (.ix (.var 2) (.int 1)) .nil))) (.cons (.tup (.cons (.ix (.var 2) (.int 0)) (.cons (.var 7) .nil))) (.cons (.tup (.cons (.var 6) (.cons (.var 7) .nil))) .nil))))) (chk 5)) (.cons (.if_ (.not (.call 25 (.cons (.var 6) .nil))) (.cons (.ret (.bl false)) (.nil)) (.nil)) (.nil)))) = B
  obtain ⟨ρ3, S3, g1, p3, p5, p6, p7, rfl, u3⟩ := forL_inv (tg := .nm 3) (B := exss GP (subP prg) (tab prg wf (k + 10)) wf B (k + 10) th) (I := fun _ ρ S' => ∃ x y z w, ρ = [some (.frz (ns.map .int)), some (.ref n), some (dBook s l), x, none, y, z, w] ∧ Up n S2 S') (rangeD 0 6) 0 [some (.frz (ns.map .int)), some (.ref n), some (dBook s l), none, none, none, none, none] S2 ⟨none, none, none, none, rfl, Up.refl u2.src⟩ fun j d ρ Sx hd hI => by
    obtain ⟨x, y, z, w, rfl, ux⟩ := hI
    obtain ⟨d1, Sa, ta, l1, ua⟩ := s_spoiltsteps (wf := wf) (k := k + 7) (th := noThk) ux.src gb.one gb.six gb.rng
    obtain ⟨d2, Sb, tb, l2, ub⟩ := s_spoiltlinks (wf := wf) (k := k + 7) (th := noThk) ua.src gb.lk gb.one gb.six
    have ii : ∃ i, d = .int i := by
      obtain ⟨i, h, _⟩ := rangeD_mem (List.mem_of_getElem? hd)
      exact ⟨i, h⟩
    obtain ⟨i, rfl⟩ := ii
    have k1 : look (some (some d1)) Sb = .ok d1 Sb := look_pd l1.pd Sb
    have k2 : look (some (some d2)) Sb = .ok d2 Sb := look_pd l2.pd Sb
    obtain ⟨ρ4, S4, g4, y4, rfl, rfl⟩ := forL_inv (tg := .nm 5) (B := exss GP (subP prg) (tab prg wf (k + 10)) wf (chk 5) (k + 10) th) (I := fun _ ρ S' => ∃ y, ρ = [some (.frz (ns.map .int)), some (.ref n), some (dBook s l), some (.int i), none, y, some d1, some d2] ∧ S' = Sb) [.tup [d1, dLinks l], .tup [dRow s, d2], .tup [d1, d2]] 0 [some (.frz (ns.map .int)), some (.ref n), some (dBook s l), some (.int i), none, y, some d1, some d2] Sb ⟨y, rfl, rfl⟩ fun j d ρ Sx hd hI => by
      obtain ⟨y, rfl, rfl⟩ := hI
      have lv : Lv 3 d := by
        have := List.mem_of_getElem? hd
        simp only [List.mem_cons, List.not_mem_nil, or_false] at this
        rcases this with rfl | rfl | rfl
        · exact lv_pair l1 ll
        · exact lv_pair ls l2
        · exact lv_pair l1 l2
      exact ⟨[some (.frz (ns.map .int)), some (.ref n), some (dBook s l), some (.int i), none, some d, some d1, some d2], _, _, rfl, ck5 _ d _ rfl lv, some d, rfl, rfl⟩
    refine ⟨[some (.frz (ns.map .int)), some (.ref n), some (dBook s l), some (.int i), none, y, z, w], [some (.frz (ns.map .int)), some (.ref n), some (dBook s l), some (.int i), none, y4, some d1, some d2], S4, rfl, ?_, some (.int i), y4, some d1, some d2, rfl, (ux.trans ua).trans ub⟩
    subst hB
    simp only [q_cons, q_nil, q_sexpr, q_asg, q_par, q_if, q_for, q_ret, q_raise, q_v, q_int, q_bl, q_non, q_str, q_glob, q_bin, q_neg, q_cmp, q_chain, q_and_, q_or_, q_not, q_ife, q_call, q_callB, q_tup, q_lst, q_cell, q_ix, q_slLo, q_slHi, q_slLH, q_rev, q_append, q_what, q_isX, es_nil, es_cons, ea_one, ea_cons, eo_one, eo_cons, el_nil, el_cons, it_seq, it_enum, sd_tup, sd_lst, e0, e1, e2, e3, e4, e5, e6, e7, e8, e9, e10, e11, e12, e13, e14, e15, e16, e17, e18, e19, e20, e21, e22, e23, e24, w0, w1, w2, w3, w4, w5, w6, w7, w8, w9, w10, w11, w12, w13, w14, w15, w16, w17, w18, w19, w20, w21, w22, w23, w24, look_non, look_bl, look_int, look_str, look_tup, look_lst, look_frz, look_ref, rb_ok, rb_exn, rg_ok, rg_exn, rs_next, rs_ret, rs_exn, op_some, om_some, sg_nm, sg_tp, sg_tp2, sa_nil, sa_cons, t_bl, t_non, t_int, t_tup, t_lst, f_next, f_ret, f_exn, tab1, Bool.not_true, Bool.not_false, b_add, b_sub, c_eq, c_ne, c_lt, c_le, c_gt, c_ge, c_is, c_isnot, i_tup, i_lst, eq_int, eq_bl, cb_isI, cb_tuple, cb_list, cb_lenL, cb_lenT, isN_non, isN_int, isN_tup, lkb, x0, x1, ta, tb, k1, k2, g4, cP d1 S4 l1]
  obtain ⟨ρ5, S5, g5, y5, rfl, rfl⟩ := forL_inv (tg := .nm 4) (B := exss GP (subP prg) (tab prg wf (k + 10)) wf (chk 4) (k + 10) th) (I := fun _ ρ S' => ∃ y, ρ = [some (.frz (ns.map .int)), some (.ref n), some (dBook s l), p3, y, p5, p6, p7] ∧ S' = S3) [.non, .tup [], .tup [dRow s], .tup [dRow s, dLinks l, .tup []], .int 5, .str "book", .tup [.tup [], .tup []], .tup [.non, .non], .tup [.tup [.int 4, .int 4, .int 4, .int 4, .int 4, .int 4, .int 4], plainD 7]] 0 [some (.frz (ns.map .int)), some (.ref n), some (dBook s l), p3, none, p5, p6, p7] S3 ⟨none, rfl, rfl⟩ fun j d ρ Sx hd hI => by
    obtain ⟨y, rfl, rfl⟩ := hI
    have lv : Lv 3 d := by
      have := List.mem_of_getElem? hd
      simp only [List.mem_cons, List.not_mem_nil, or_false] at this
      rcases this with rfl | rfl | rfl | rfl | rfl | rfl | rfl | rfl | rfl
      · exact .non _
      · exact .tup _ _ (by simp) (by simp)
      · exact .tup _ _ (by simp) (by simp; exact ls)
      · exact .tup _ _ (by simp) (by simp; exact ⟨ls, ll, .tup _ _ (by simp) (by simp)⟩)
      · exact .int _ _ (by decide)
      · exact lv_book
      · exact lv_pair (.tup _ _ (by simp) (by simp)) (.tup _ _ (by simp) (by simp))
      · exact lv_pair (.non _) (.non _)
      · exact lv_pair (.tup _ _ (by simp) (by simp; exact .int _ _ (by decide))) (plainD_lv (by decide))
    exact ⟨[some (.frz (ns.map .int)), some (.ref n), some (dBook s l), p3, some d, p5, p6, p7], _, _, rfl, ck4 _ d _ rfl lv, some d, rfl, rfl⟩
  have s1 : slice (dBook s l) none (some 1) S5 = some (.tup [dRow s]) := sl_hi (j := 1)
  have s2 : binop .add (dBook s l) (.tup [.tup []]) = some (.tup [dRow s, dLinks l, .tup []]) := b_tup (by simp)
  have s3 : binop .mul (.tup [.int 4]) (.int 7) = some (.tup [.int 4, .int 4, .int 4, .int 4, .int 4, .int 4, .int 4]) := (b_trep (k := 7) (by decide) (by simp) (by simp)).trans (by rfl)
  have s4 : callF prg wf (k + 10) 14 [.int 7] noThk S5 = .ok (plainD 7) S5 := s_plainlinks (k := k + 9) (n := 7) (by decide)
  refine ⟨S5, ?_⟩
  subst hB
  simp only [d26, q_cons, q_nil, q_sexpr, q_asg, q_par, q_if, q_for, q_ret, q_raise, q_v, q_int, q_bl, q_non, q_str, q_glob, q_bin, q_neg, q_cmp, q_chain, q_and_, q_or_, q_not, q_ife, q_call, q_callB, q_tup, q_lst, q_cell, q_ix, q_slLo, q_slHi, q_slLH, q_rev, q_append, q_what, q_isX, es_nil, es_cons, ea_one, ea_cons, eo_one, eo_cons, el_nil, el_cons, it_seq, it_enum, sd_tup, sd_lst, e0, e1, e2, e3, e4, e5, e6, e7, e8, e9, e10, e11, e12, e13, e14, e15, e16, e17, e18, e19, e20, e21, e22, e23, e24, w0, w1, w2, w3, w4, w5, w6, w7, w8, w9, w10, w11, w12, w13, w14, w15, w16, w17, w18, w19, w20, w21, w22, w23, w24, look_non, look_bl, look_int, look_str, look_tup, look_lst, look_frz, look_ref, rb_ok, rb_exn, rg_ok, rg_exn, rs_next, rs_ret, rs_exn, op_some, om_some, sg_nm, sg_tp, sg_tp2, sa_nil, sa_cons, t_bl, t_non, t_int, t_tup, t_lst, f_next, f_ret, f_exn, tab1, Bool.not_true, Bool.not_false, b_add, b_sub, c_eq, c_ne, c_lt, c_le, c_gt, c_ge, c_is, c_isnot, i_tup, i_lst, eq_int, eq_bl, cb_isI, cb_tuple, cb_list, cb_lenL, cb_lenT, isN_non, isN_int, isN_tup, t1, t2, lkb, cW, x0, cT _ _ lb, cP _ _ ls, it6, g1, s1, s2, s3, s4, g5]
end
end BhK00

set_option Elab.async false
set_option linter.all false
set_option maxRecDepth 100000
set_option maxHeartbeats 0
open PySem PySem.W PySem.Calls PyProof.Rows
theorem PySem.Challenge.cw_byhalves_k00_books_made_and_refused_holds : PySem.Challenge.rw_byhalves_k00_books_made_and_refused.Holds := by
  w_on; o_law
  refine HandSHeadRun.head_any (r := BhK00.RR) (q := view BhK00.RR.prog [34]) (H := BhK00.hk) (ob := BhK00.ob) (M := 8000) (loose := BhK00.loose) (d := HandSHeadRun.topDef BhK00.RR.prog 34) (kwd := []) BhK00.ob_eq
    (by kernel_rfl) (fun s => by kernel_rfl) BhK00.run (by kernel_rfl) (by kernel_rfl) (by kernel_rfl) (by rfl) (by first | assumption | decide +kernel) (by decide +kernel) ⟨rfl, rfl, rfl, rfl, rfl, by decide +kernel⟩ ?hw ?hc
  case hw => w_witness2
  case hc =>
    refine Bh.bh_walk (T := BhK00.tx) (n := 63) (k := 40) (wf := 1000) (ix := 26) (df := BhK00.d26) rfl (by decide) (by kernel_rfl) ⟨rfl, by decide, by decide⟩ BhK00.tx_ok (fun k x h1 h2 => ?_) BhK00.ini_is rfl (by kernel_rfl) rfl (fun w h y => y) (fun ns h1 h2 => ?_)
    · have hk : k = 2 := by
        have h3 : k < 3 := (List.getElem?_eq_some_iff.mp h2).1
        have h4 : 2 ≤ k := h1
        omega
      subst hk
      have hx : x = "ValueError" := by
        have : some ("ValueError" : Str) = some x := h2
        injection this with this
        exact this.symm
      subst hx
      exact ⟨by rfl, by decide +kernel⟩
    · exact BhK00.s_law (k := 29) ns
