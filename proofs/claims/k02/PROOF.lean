import PyProof.Rows.All
import Wide.All
import OpenK.AllK
import Wide.FinOn
import HandS.ForMost
import HandS.Strs
import HandS.IsInst
import HandS.Wide
import HandS.TupAny
import PySem.Challenge.RW_nextbehind_k02_names_recognized
set_option Elab.async false
set_option maxRecDepth 100000
/-! How many different texts a tuple holds: the value of len(set(t)). -/
namespace Nb
open PySem PySem.Spec PyProof.Rows L2
/-- the different texts of a list, each where it is met first -/
def dis : List Str → List Str
  | [] => []
  | x :: r => x :: (dis r).filter (fun y => !(y == x))
/-- seen so far: one text more -/
def grow (l : List Str) (x : Str) : List Str := if l.any (· == x) then l else l ++ [x]
def seen (xs : List Str) : List Str := xs.foldl grow []
theorem seen_snoc (xs : List Str) (x : Str) : seen (xs ++ [x]) = grow (seen xs) x := by
  unfold seen
  rw [List.foldl_append]
  rfl
theorem grow_any (l : List Str) (x k : Str) : (grow l x).any (· == k) = (l.any (· == k) || decide (k = x)) := by
  unfold grow
  by_cases h : l.any (· == x) = true
  · rw [if_pos h]
    by_cases e : k = x
    · subst e
      rw [h]
      rfl
    · simp [e]
  · rw [if_neg h, List.any_append]
    by_cases e : k = x
    · subst e
      simp
    · have e2 : (x == k) = false := beq_eq_false_iff_ne.mpr fun z => e z.symm
      simp [e, e2]
theorem grow_len (l : List Str) (x : Str) : (grow l x).length = if l.any (· == x) = true then l.length else l.length + 1 := by
  unfold grow
  split <;> simp
theorem grow_le (l : List Str) (x : Str) : (grow l x).length ≤ l.length + 1 := by
  rw [grow_len]
  split <;> omega
theorem seen_le : ∀ xs : List Str, (seen xs).length ≤ xs.length := by
  have key : ∀ (xs l : List Str), (xs.foldl grow l).length ≤ l.length + xs.length := by
    intro xs
    induction xs with
    | nil => intro l; exact Nat.le_refl _
    | cons x r ih =>
      intro l
      have h1 := ih (grow l x)
      have h2 := grow_le l x
      show (r.foldl grow (grow l x)).length ≤ l.length + (r.length + 1)
      omega
  intro xs
  have h := key xs []
  simpa [seen] using h

section
variable {P : Program} {w : World} {A : Around} {E : Value → Shared → Prop} {s : Shared}
abbrev SetS (P : Program) (w : World) (h : Heap) (S : Addr) (l : List Str) : Prop := h.SetOf (PySem.strKind P w) S (fun k => l.any (· == k)) l.length
theorem SetS.to {h h' : Heap} {S : Addr} {l : List Str} (x : SetS P w h S l) (k : ∀ o, h.get? S = some o → h'.get? S = some o) : SetS P w h' S l :=
  let ⟨o, es, ep, t, ho, r⟩ := x
  ⟨o, es, ep, t, k o ho, r⟩
/-- the set takes what is walked, text by text -/
theorem takes_texts {I : Addr} {fp wr : List Addr} {G : Array GenState → Array GenState → Prop} {n : Nat} {Pv : Nat → Value → Prop} {St : Nat → Shared → Prop} {R : Result → Shared → Prop}
    (W : WalksS P w A.in1 I fp wr G n Pv St) (S : Addr) (apart : S ∉ fp) (xs : List Str) (size : n = xs.length) (few : xs.length + 1 < scanBound) (val : ∀ i v, Pv i v → ∃ x t, xs[i]? = some x ∧ v = .str x t) :
    ∀ (m i : Nat) (s : Shared), m + i = n → St i s → SetS P w s.heap S (seen (xs.take i)) →
      (∀ s', Moved (S :: wr) G s s' → SetS P w s'.heap S (seen xs) → R (.ok (.ret .none)) s') → codeAny (model P w) A (.builtin "set.update.loop" ⟨[.ref S, .ref I], []⟩) R s := by
  have out : S ∉ wr := fun z => apart (W.sub _ z)
  have wide : ∀ b ∈ wr, b ∈ S :: wr := fun b z => List.mem_cons_of_mem _ z
  intro m
  induction m with
  | zero =>
    intro i s em here held fin
    refine codeAny_builtin F.entry_set_update_loop (by
      rw [Around.under_plainId F.plain_set_update_loop _]
      refine wpAny_bind (m := pyNext (.ref I)) (W.done s _ _ (by rw [← em, Nat.zero_add]; exact here) fun s' mv => ?_)
      refine wpAny_pure (fin s' (mv.mono wide) ?_)
      have all : xs.take i = xs := List.take_of_length_le (by omega)
      rw [all] at held
      exact held.to fun o e => mv.heap S o out e)
  | succ m ih =>
    intro i s em here held fin
    refine codeAny_builtin F.entry_set_update_loop (by
      rw [Around.under_plainId F.plain_set_update_loop _]
      refine wpAny_bind (m := pyNext (.ref I)) (W.item i s _ _ (by omega) here fun v s' hv here' mv => ?_)
      obtain ⟨x, t, ex, rfl⟩ := val i v hv
      have held' : SetS P w s'.heap S (seen (xs.take i)) := held.to fun o e => mv.heap S o out e
      refine wpAny_bind (m := holding [Value.str x t] (setAdd S (.str x t))) (wpAny_holding ?_)
      unfold setAdd
      refine wpAny_holding (wpAny_bind ((PySem.strKind P w).pyHash (k := x) (strKind_is _ _ _ _) ?_))
      have room : (seen (xs.take i)).length + 1 < scanBound := by
        have h1 := seen_le (xs.take i)
        have h2 : (xs.take i).length ≤ xs.length := by rw [List.length_take]; omega
        omega
      refine wpAny_setAddHashed_of (knd := PySem.strKind P w) (s := { s' with toks := s'.toks + 1 }) (strKind_is _ _ _ _) rfl held' room fun h' only more => ?_
      have step : seen (xs.take (i + 1)) = grow (seen (xs.take i)) x := by
        rw [List.take_add_one, ex]
        exact seen_snoc _ _
      have held2 : SetS P w h' S (seen (xs.take (i + 1))) := by
        rw [step]
        exact SetOf_congr more (fun k => (grow_any _ _ _).symm) (grow_len _ _).symm
      have still : ∀ b, b ≠ S → ∀ o, s'.heap.get? b = some o → h'.get? b = some o := fun b nb o e => by
        rw [only.2 b nb]
        exact e
      exact wpAny_pure ⟨plainId_quiet F.plain_set_update_loop _, ih (i + 1) _ (by omega) (W.frame _ s' _ _ here' (Nat.le_succ _) fun b hb o e => still b (fun z => apart (z ▸ hb)) o e) held2 fun s2 mv2 held3 =>
        fin s2 (Moved.trans W.gtrans ((mv.mono wide).then_heap (Nat.le_succ _) fun b o hb e => still b (fun z => hb (z ▸ List.mem_cons_self)) o e) mv2) held3⟩)
/-- an empty set as it is laid -/
abbrev bareSet (led : Bool) : Obj := { cls := .type "set", dict := none, data := .set #[] 0 (.fresh 0 0 led) }
set_option maxHeartbeats 3200000 in
/-- set(t), t a tuple of texts -/
theorem set_of_texts {l : Addr} {items : Array Value} {xs : List Str} {Q : Value → Shared → Prop} (calm : A.handled = none) (tup : s.heap.IsTuple l items) (txt : StrsAre items.toList xs) (few : xs.length + 1 < scanBound)
    (h : ∀ (h' : Heap) (tk : Nat), SetS P w h' s.heap.objs.size (seen xs) → (∀ b o, s.heap.get? b = some o → h'.get? b = some o) → Q (.ref s.heap.objs.size) { s with heap := h', toks := tk }) :
    wpAny (model P w) A (call (.type "set") [.ref l]) Q E s := by
  have size : items.size = xs.length := by
    have q := StrsAre.len_eq txt
    rw [Array.length_toList] at q
    exact q
  obtain ⟨c, tl, hmro⟩ := F.called_set.mro
  have g1 := F.called_set.made
  have g2 := F.called_set.sub
  have g3 := F.called_set.notType
  have g4 := F.called_set.canCreate
  have g5 := F.typeCall_set_1 (.ref l)
  refine wpAny_call (codeAny_of_tree (show wpAny _ _ (callAny (.type "set") _) _ _ _ from wpAny_pure ⟨Code.quiet_builtin _ (by decide +kernel), codeAny_builtin F.entry_type_call ?_⟩))
  rw [Around.under_plain (weight_type_call_type "set" [.ref l] []) rfl]
  repeat (any_goals (first | assumption | wp_step))
  refine codeAny_mono (code_set_new_1 (.ref l) (E := E) (Q₁ := fun obj s₁ => ∃ led : Bool, obj = .ref s.heap.objs.size ∧ s₁ = { s with heap := s.heap.push (bareSet led) }) fun led => ⟨led, rfl, rfl⟩) fun r s₁ hr => ?_
  rcases r with e | fl
  · exact hr
  cases fl with
  | ret obj =>
    obtain ⟨led, rfl, rfl⟩ := hr
    have at0 : (s.heap.push (bareSet led)).get? s.heap.objs.size = some (bareSet led) := Heap.get?_push_size _ rfl
    have ty0 : Shared.TypeIs { s with heap := s.heap.push (bareSet led) } (.ref s.heap.objs.size) "set" := ⟨_, at0, rfl⟩
    have g6 := F.called_set.init.lookup
    have g7 := F.called_set.init.bind (.ref s.heap.objs.size)
    repeat (any_goals (first | assumption | wp_step))
    refine codeAny_mono (codeAny_call_builtin (R := wants (fun r s₂ => r = .none ∧ ∃ h' tk, s₂ = { s with heap := h', toks := tk } ∧ SetS P w h' s.heap.objs.size (seen xs) ∧ (∀ b o, s.heap.get? b = some o → h'.get? b = some o)) E)
      F.called_set.init.plain F.entry_set_init (check_set_init_1 ty0 ?_)) fun r₂ s₂ hr₂ => ?_
    · obtain ⟨⟨ocls, odict, odata, oslots⟩, ho, hc, nl, hd⟩ := tup
      simp only at hc hd
      subst hc hd
      have ho1 : (s.heap.push (bareSet led)).get? l = some { cls := .type "tuple", dict := odict, data := .seq items nl, slots := oslots } := Heap.get?_push_of_some _ ho
      have g8 := F.sub_tuple_set
      have g9 := F.sub_tuple_frozenset
      have g10 : (Value.type "tuple" == Value.type "dict") = false := by decide
      have tup1 : (s.heap.push (bareSet led)).IsTuple l items := ⟨_, ho1, rfl, nl, rfl⟩
      unfold Builtin.«set.__init__» noKeywords Builtin.Frozenset.updateFrom
      generalize hPI : pyIter = PI
      wp_walk
      subst hPI
      refine wpAny_pyIter_tuple tup1 (wpAny_bind (wpAny_runValue ?_))
      have lt0 : l < s.heap.objs.size := Heap.lt_size ho
      have sz1 : (s.heap.push (bareSet led)).objs.size = s.heap.objs.size + 1 := Heap.size_push ..
      have calm3 : A.in1.in1.in1.handled = none := by simp [calm]
      have ne1 : l ≠ (s.heap.push (bareSet led)).objs.size := by
        rw [sz1]
        exact Nat.ne_of_lt (Nat.lt_succ_of_lt lt0)
      have apart : s.heap.objs.size ∉ [(s.heap.push (bareSet led)).objs.size, l] := fun z => by
        rcases List.mem_cons.mp z with z | z
        · rw [sz1] at z
          exact absurd z (Nat.ne_of_lt (Nat.lt_succ_self _))
        · exact absurd (List.mem_singleton.mp z) (Nat.ne_of_gt lt0)
      refine takes_texts ((Walks.tuple calm3 _ l ne1 items).toS) s.heap.objs.size apart xs size few (fun i v hv => ?_) items.size 0 _ (by omega) ⟨⟨_, Heap.get?_push_size _ rfl, rfl, rfl⟩, (tup1.push _)⟩ ?start fun s' mv held => ?_
      case start =>
        have at1 : ((s.heap.push (bareSet led)).push { cls := .type "tuple_iterator", data := .fields #[.ref l, .int 0 0] }).get? s.heap.objs.size = some (bareSet led) := Heap.get?_push_of_some _ at0
        exact SetOf_congr ((setObjOf_fresh (knd := PySem.strKind P w) led).setOf at1 (by unfold scanBound; omega)) (fun _ => rfl) rfl
      · have hi : i < xs.length := by
          rw [← size]
          exact (Array.getElem?_eq_some_iff.mp hv).1
        obtain ⟨t, e⟩ := SS.strs_at txt i v (by rw [Array.getElem?_toList]; exact hv)
        refine ⟨xs[i], t, List.getElem?_eq_getElem hi, ?_⟩
        rw [e, List.getD_eq_getElem?_getD, List.getElem?_eq_getElem hi]
        rfl
      · obtain ⟨h', gn, dr, tk, os'⟩ := s'
        have eg : gn = s.gens := mv.gens
        have ed : dr = s.drawn := mv.drawn
        have eo : os' = s.os := mv.os
        subst eg ed eo
        refine wpAny_pure ?_
        show wpAny _ _ (ret Value.none) _ _ _
        refine wpAny_pure ⟨rfl, h', tk, rfl, held, fun b o e => ?_⟩
        have lt1 : b < s.heap.objs.size := Heap.lt_size e
        refine mv.heap b o (fun z => ?_) (Heap.get?_push_of_some _ (Heap.get?_push_of_some _ e))
        rcases List.mem_cons.mp z with z | z
        · exact absurd z (Nat.ne_of_lt lt1)
        · rw [List.mem_singleton.mp z, sz1] at lt1
          exact absurd (Nat.lt_trans lt1 (Nat.lt_succ_self _)) (by
            intro q
            have := Nat.lt_of_lt_of_le lt1 (Nat.le_refl _)
            omega)
    · rcases r₂ with e | fl₂
      · exact hr₂
      cases fl₂ with
      | ret r =>
        obtain ⟨rfl, h', tk, rfl, held, kept⟩ := hr₂
        repeat (any_goals (first | assumption | wp_step))
        exact h _ _ held kept
      | _ => exact hr₂.elim
  | _ => exact hr.elim
end
section
variable {X : Cx}
theorem texts_of : ∀ {xs : List Str} {us : List Value}, Vals (xs.map V.str) us → StrsAre us xs
  | [], _, .nil => .nil
  | x :: xs, _, .cons r t => by
    obtain ⟨k, rfl⟩ := r
    exact .cons x k (texts_of t)
/-- len(set(t)), t a tuple of texts -/
def tManyS (K : PySem.W.Frag) (ta : TE) : TE := fun σ H Q => ta σ H fun x H1 => ∃ (l : Addr) (xs : List Str), x = .ref l ∧ SqT K H1 l (xs.map V.str) ∧ xs.length ≤ 4000 ∧ Q (.int ((seen xs).length : Nat)) H1
theorem pe_manyS {a : Expr} {ta : TE} {p p2 q pos : Pos} (hg : Gl X "len") (hm : X.mg "len" = none) (hg2 : Gl X "set") (hm2 : X.mg "set" = none) (ha : PE X a ta) (hc : X.calm = true := by rfl)
    (na : starEach [a] X.env = (false, eval a X.env) :: starEach [] X.env := by rfl) : PE X (.Call (.Name "len" p) [.Call (.Name "set" p2) [a] [] q] [] pos) (tManyS X.K ta) := by
  refine ⟨fun pins s σ H Q I h => Call_ (ld_blt I hg hm boot_len (callWith_builtin1 (args_cons (Call_ (ld_blt I hg2 hm2 boot_set ?_)) rfl) rfl rfl))⟩
  refine callWith_type1 (args_cons (thn (ha.run pins s σ H _ I h) fun v s1 ⟨x, H1, I1, r1, q1⟩ => args_nil ?_) na) na rfl
  obtain ⟨l, xs, rfl, hq, hl, q1⟩ := q1
  cases r1
  obtain ⟨its, r, pl, hz⟩ := I1.tuple hq
  have few := seen_le xs
  refine set_of_texts (I1.ok.hd hc) pl (by simpa using texts_of r) (by unfold scanBound; omega) fun h' tk held kept => args_nil ?_
  obtain ⟨o, es, ep, t, ho, hex, hd, _, _, _, hf, hn⟩ := held
  exact call_len_set ho hex hd hf (by rw [hn]; omega) ⟨.int (seen xs).length, H1, (I1.kept kept).tok _, ⟨_, by rw [hn]⟩, q1⟩
end
end Nb

set_option Elab.async false
set_option maxRecDepth 100000
set_option maxHeartbeats 4000000
/-! Heaps, and the numbers that the laws draw: what is common to all of them. -/
namespace Nb
open PySem L2
/-! ### heaps -/
theorem same_new {H : Hp} {p : Addr} {o : HO} (h : H p = none) : Same H (upd H p o) := fun b x e => by
  rw [upd_ne (ne_of_none e h)]
  exact e
/-- F says nothing of p: so what is stored at p leaves F as it is -/
theorem same_at {F H : Hp} {p : Addr} {o : HO} (s : Same F H) (h : F p = none) : Same F (upd H p o) := fun b x e => by
  rw [upd_ne (ne_of_none e h)]
  exact s _ _ e
theorem same_in {F H : Hp} {p : Addr} {o : HO} (s : Same F H) (h : H p = none) : Same F (upd H p o) := s.trans (same_new h)
/-- the heap without p -/
def del (H : Hp) (p : Addr) : Hp := fun b => if b = p then none else H b
theorem del_at {H : Hp} {p : Addr} : del H p p = none := if_pos rfl
theorem del_ne {H : Hp} {p b : Addr} (h : b ≠ p) : del H p b = H b := if_neg h
theorem del_same {H : Hp} {p : Addr} : Same (del H p) H := fun b o e => by
  by_cases h : b = p
  · subst h
    rw [del_at] at e
    cases e
  · rw [del_ne h] at e
    exact e
theorem same_del {F H : Hp} {p : Addr} (s : Same F H) (h : F p = none) : Same F (del H p) := fun b o e => by
  rw [del_ne (ne_of_none e h)]
  exact s _ _ e
theorem Same.tup {K : PySem.W.Frag} {H H' : Hp} {a : Addr} {xs : List V} (e : Same H H') (h : SqT K H a xs) : SqT K H' a xs := by
  rcases h with (h | ⟨o, h⟩) | h
  · exact .inl (.inl (e _ _ h))
  · exact .inl (.inr ⟨o, e _ _ h⟩)
  · exact .inr h
/-! ### data under more objects -/
section
variable {K : PySem.W.Frag} {H H' : Hp} (s : Same H H')
include s
mutual
theorem dp_same : ∀ (d : PyData) (v : V), Dp K H v d → Dp K H' v d
  | .none, _, .non => .non
  | .bool b, _, .bl _ => .bl b
  | .int i, _, .int _ => .int i
  | .str x, _, .str _ => .str x
  | .list ds, _, .lst h1 h2 => .lst (s.seq h1) (dp_sames ds _ h2)
  | .tuple ds, _, .tup h1 h2 => .tup (Nb.Same.tup s h1) (dp_sames ds _ h2)
theorem dp_sames : ∀ (ds : List PyData) (vs : List V), DpAll K H vs ds → DpAll K H' vs ds
  | [], _, .nil => .nil
  | d :: ds, _, .cons h1 h2 => .cons (dp_same d _ h1) (dp_sames ds _ h2)
end
end
theorem dp_ints {K : PySem.W.Frag} {H : Hp} : ∀ ns : List Int, DpAll K H (ns.map V.int) (ns.map PyData.int)
  | [] => .nil
  | n :: ns => .cons (.int n) (dp_ints ns)
/-- data without dicts, whose texts are texts, not deeper than n -/
def Fine (n : Nat) (d : PyData) : Prop := d.canLay0 = true ∧ d.depth ≤ n
theorem Fine.mono {n m : Nat} {d : PyData} (h : Fine n d) (l : n ≤ m) : Fine m d := ⟨h.1, Nat.le_trans h.2 l⟩
theorem Fine.shaped {n : Nat} {d : PyData} (h : Fine n d) (l : n ≤ 64) : SeqAt.shaped d = true := by
  unfold SeqAt.shaped
  rw [h.1, Bool.true_and]
  exact decide_eq_true (Nat.le_trans h.2 l)
theorem fine_all : ∀ {n : Nat} {ds : List PyData}, (∀ d ∈ ds, Fine n d) → PyData.canLayAll0 ds = true ∧ PyData.depthAll ds ≤ n
  | n, [], _ => by simp [PyData.canLayAll0, PyData.depthAll]
  | n, d :: ds, h => by
    have h1 := h d (List.mem_cons_self ..)
    have h2 := fine_all (n := n) (ds := ds) fun e he => h e (List.mem_cons_of_mem _ he)
    refine ⟨by simp [PyData.canLayAll0, h1.1, h2.1], ?_⟩
    simp only [PyData.depthAll]
    exact Nat.max_le.mpr ⟨h1.2, h2.2⟩
theorem fine_list {n : Nat} {ds : List PyData} (h : ∀ d ∈ ds, Fine n d) : Fine (n + 1) (.list ds) := by
  have k := fine_all h
  exact ⟨by simpa [PyData.canLay0] using k.1, by simpa [PyData.depth] using k.2⟩
theorem fine_tup {n : Nat} {ds : List PyData} (h : ∀ d ∈ ds, Fine n d) : Fine (n + 1) (.tuple ds) := by
  have k := fine_all h
  exact ⟨by simpa [PyData.canLay0] using k.1, by simpa [PyData.depth] using k.2⟩
theorem fine_int (i : Int) : Fine 0 (.int i) := ⟨by simp [PyData.canLay0], by simp [PyData.depth]⟩
theorem fine_non : Fine 0 .none := ⟨by simp [PyData.canLay0], by simp [PyData.depth]⟩
theorem fine_bl (b : Bool) : Fine 0 (.bool b) := ⟨by simp [PyData.canLay0], by simp [PyData.depth]⟩
theorem fine_str {x : Str} (h : PyData.strOk x = true) : Fine 0 (.str x) := ⟨by simpa [PyData.canLay0] using h, by simp [PyData.depth]⟩
theorem fine_ints (ns : List Int) : Fine 1 (.list (ns.map PyData.int)) := fine_list fun d hd => by
  obtain ⟨i, _, rfl⟩ := List.mem_map.mp hd
  exact fine_int i
theorem eqv_nil (ds : List PyData) : PyData.eqv (.list ds) (.list []) = ds.isEmpty := by
  cases ds <;> simp [PyData.eqv, PyData.eqvAll]
/-! ### the source of numbers: a list of three ints -/
def Src (H : Hp) (p : Addr) (b : Nat) : Prop := ∃ c n r : Int, H p = some (.lst [.int c, .int n, .int r]) ∧ 0 ≤ n ∧ n ≤ b
theorem Src.mono {H : Hp} {p : Addr} {b c : Nat} (h : Src H p b) (l : b ≤ c) : Src H p c := by
  obtain ⟨x, n, r, h1, h2, h3⟩ := h
  exact ⟨x, n, r, h1, h2, by omega⟩
theorem Src.some {H : Hp} {p : Addr} {b : Nat} (h : Src H p b) : ∃ o, H p = some o := let ⟨_, _, _, e, _⟩ := h; ⟨_, e⟩
theorem Src.same {F H : Hp} {p : Addr} {b : Nat} (h : Src F p b) (s : Same F H) : Src H p b :=
  let ⟨c, n, r, e, k⟩ := h; ⟨c, n, r, s _ _ e, k⟩
/-- _law_source's promise -/
def spSource (K : PySem.W.Frag) : Sp := fun vs H Q _ => ∃ (a : Addr) (ns : List Int) (k : Nat), vs = [.ref a, .int k] ∧ SqL K H a (ns.map V.int) ∧ ns.length ≤ 63 ∧ k ≤ 1000 ∧
  ∀ H' p, Same H H' → H p = none → Src H' p (3 * k) → Q (.ref p) H'
/-- _law_next's: a number below the second argument; nothing but the source is changed -/
def spNext : Sp := fun vs H Q _ => ∃ (p : Addr) (m : Int) (b : Nat) (F : Hp), vs = [.ref p, .int m] ∧ 1 ≤ m ∧ m < 1000000 ∧ Src H p b ∧ b ≤ 1000000 ∧ F p = none ∧ Same F H ∧
  ∀ H' k, 0 ≤ k → k < m → Same F H' → Src H' p (b + 1) → Q (.int k) H'
/-- _law_pick's: an item of the list -/
def spPick : Sp := fun vs H Q _ => ∃ (p l : Addr) (xs : List V) (b : Nat) (F : Hp), vs = [.ref p, .ref l] ∧ F l = some (.lst xs) ∧ 1 ≤ xs.length ∧ xs.length ≤ 1000 ∧ Src H p b ∧ b ≤ 1000000 ∧ F p = none ∧ Same F H ∧
  ∀ H' x, x ∈ xs → Same F H' → Src H' p (b + 1) → Q x H'
/-! ### frames: what stands beside the source -/
theorem grow_same {F H : Hp} {l : Addr} {o : HO} (s : Same F H) (h : H l = none) : Same F (upd F l o) := same_new (s.free h)
theorem grow_up {F H : Hp} {l : Addr} {o : HO} (s : Same F H) : Same (upd F l o) (upd H l o) := fun b x e => by
  by_cases hb : b = l
  · subst hb
    rw [upd_same] at e ⊢
    exact e
  · rw [upd_ne hb] at e ⊢
    exact s _ _ e
theorem grow_at {F H : Hp} {p l : Addr} {o : HO} {b : Nat} (hF : F p = none) (S : Src H p b) (h : H l = none) : (upd F l o) p = none := by
  obtain ⟨u, e⟩ := S.some
  rw [upd_ne (ne_of_none e h)]
  exact hF
theorem src_new {H : Hp} {p l : Addr} {o : HO} {b : Nat} (S : Src H p b) (h : H l = none) : Src (upd H l o) p b := S.same (same_new h)
/-- what stood at b, not the source, stands there behind a call that was framed by the heap without the source -/
theorem del_get {H H' : Hp} {p b : Addr} {o : HO} (s : Same (del H p) H') (n : b ≠ p) (e : H b = some o) : H' b = some o := s _ _ (by rw [del_ne n]; exact e)
theorem src_ne {H : Hp} {p b : Addr} {n : Nat} {o : HO} (S : Src H p n) (e : H b = some o) (d : ∀ xs, o ≠ .lst xs) : b ≠ p := by
  obtain ⟨c, m, r, e2, _⟩ := S
  exact ne_of e e2 (d _)
/-- the primes -/
def primes : List Int := [2147483647, 2147483629, 2147483587, 2147483579, 2147483563, 2147483549, 2147483543, 2147483497, 2147483489, 2147483477, 2147483423]
theorem prime_at (k : Int) (h0 : 0 ≤ k) (h : k < 11) : ∃ q : Int, atI (primes.map V.int) k = some (.int q) ∧ 2 ≤ q ∧ q < 2 ^ 31 := by
  have hk : k = 0 ∨ k = 1 ∨ k = 2 ∨ k = 3 ∨ k = 4 ∨ k = 5 ∨ k = 6 ∨ k = 7 ∨ k = 8 ∨ k = 9 ∨ k = 10 := by omega
  rcases hk with rfl | rfl | rfl | rfl | rfl | rfl | rfl | rfl | rfl | rfl | rfl
  all_goals exact ⟨_, rfl, by decide, by decide⟩
theorem fmod_pos (x : Int) {m : Int} (h : 1 ≤ m) : 0 ≤ x.fmod m ∧ x.fmod m < m := by
  rw [Int.fmod_eq_emod_of_nonneg x (by omega)]
  exact ⟨Int.emod_nonneg _ (by omega), Int.emod_lt_of_pos _ (by omega)⟩
end Nb

set_option Elab.async false
set_option maxRecDepth 100000
set_option maxHeartbeats 4000000
/-! Names and rows of names, as values. -/
namespace Nb
open PySem L2
def lowA : List Nat := ("a" : Str).cps.toList
def lowZ : List Nat := ("z" : Str).cps.toList
def letterOk (c : Nat) : Bool := !decide ([c] < lowA) && !decide (lowZ < [c])
def isNm (z : Str) : Bool := decide (1 ≤ (z.length : Int)) && decide ((z.length : Int) ≤ 8) && z.cps.toList.all letterOk
def nameV : V → Bool
  | .str z => isNm z
  | _ => false
/-- what is known of a value that may be a name -/
def Known (K : PySem.W.Frag) (H : Hp) (x : V) : Prop := (∃ z, x = .str z ∧ z.length ≤ 1000 ∧ PyData.strOk z = true) ∨ (∀ z, x ≠ .str z) ∧ ∃ T, TyX K H x (.type T) ∧ kitB T "str" = some false
def Item (K : PySem.W.Frag) (H : Hp) (x : V) : Prop := Known K H x ∧ ∃ d, Dp K H x d ∧ Fine 8 d
def tupOf (H : Hp) : V → Option (List V)
  | .ref a => match H a with
    | some (.tup xs) => some xs
    | _ => none
  | _ => none
def Thing (K : PySem.W.Frag) (H : Hp) (x : V) : Prop :=
  (∃ a xs, x = .ref a ∧ H a = some (.tup xs) ∧ xs.length ≤ 1000 ∧ ∀ y ∈ xs, Item K H y) ∨ (∀ H', Same H H' → tupOf H' x = none) ∧ ∃ T, TyX K H x (.type T) ∧ kitB T "tuple" = some false
def strsOf (xs : List V) : List Str := xs.filterMap fun | .str z => some z | _ => none
def diffV (xs : List V) : Bool := xs.all nameV && decide (((seen (strsOf xs)).length : Int) = xs.length)
def namesV (H : Hp) (x : V) : Bool := match tupOf H x with
  | some xs => xs.all nameV
  | none => false
def diffOf (H : Hp) (x : V) : Bool := match tupOf H x with
  | some xs => diffV xs
  | none => false
def rowV (H : Hp) (x : V) : Bool := match tupOf H x with
  | some xs => diffV xs && decide ((xs.length : Int) ≤ 4)
  | none => false
theorem tupOf_at {H : Hp} {a : Addr} {xs : List V} (h : H a = some (.tup xs)) : tupOf H (.ref a) = some xs := by
  show (match H a with | some (.tup xs) => some xs | _ => none) = some xs
  rw [h]
theorem strs_map : ∀ {xs : List V}, xs.all nameV = true → xs = (strsOf xs).map V.str
  | [], _ => rfl
  | x :: xs, h => by
    rw [List.all_cons, Bool.and_eq_true] at h
    have ih := strs_map h.2
    cases x with
    | str z =>
      show V.str z :: xs = V.str z :: (strsOf xs).map V.str
      rw [← ih]
    | _ => exact absurd h.1 (by simp [nameV])
theorem tyx_same {K : PySem.W.Frag} {H H' : Hp} (s : Same H H') {x : V} {t : Value} (h : TyX K H x t) : TyX K H' x t := by
  cases h with
  | base b =>
    refine .base ?_
    cases b with
    | non => exact .non
    | bl x => exact .bl x
    | int i => exact .int i
    | str x => exact .str x
    | flt x => exact .flt x
    | lst e => exact .lst (s _ _ e)
    | frz e => exact .frz (s _ _ e)
    | tup e => exact .tup (s _ _ e)
    | dK e => exact .dK (s _ _ e)
    | dT e => exact .dT (s _ _ e)
    | ins e cl ha hn htk hm => exact .ins (s _ _ e) cl ha hn htk hm
  | byt b => exact .byt b
  | set e => exact .set (s _ _ e)
  | kList e c => exact .kList e c
  | kTuple e c => exact .kTuple e c
  | kDict e c => exact .kDict e c
  | fTuple e => exact .fTuple (s _ _ e)
  | fDict e => exact .fDict (s _ _ e)
theorem known_same {K : PySem.W.Frag} {H H' : Hp} (s : Same H H') {x : V} (h : Known K H x) : Known K H' x := by
  rcases h with h | ⟨h1, T, h2, h3⟩
  · exact .inl h
  · exact .inr ⟨h1, T, tyx_same s h2, h3⟩
theorem item_same {K : PySem.W.Frag} {H H' : Hp} (s : Same H H') {x : V} (h : Item K H x) : Item K H' x :=
  ⟨known_same s h.1, let ⟨d, h1, h2⟩ := h.2; ⟨d, dp_same s d x h1, h2⟩⟩
theorem thing_same {K : PySem.W.Frag} {H H' : Hp} (s : Same H H') {x : V} (h : Thing K H x) : Thing K H' x := by
  rcases h with ⟨a, xs, h1, h2, h3, h4⟩ | ⟨h1, T, h2, h3⟩
  · exact .inl ⟨a, xs, h1, s _ _ h2, h3, fun y hy => item_same s (h4 y hy)⟩
  · exact .inr ⟨fun H2 s2 => h1 H2 (s.trans s2), T, tyx_same s h2, h3⟩
theorem thing_tup {K : PySem.W.Frag} {H H' : Hp} (s : Same H H') {x : V} (h : Thing K H x) : tupOf H' x = tupOf H x := by
  rcases h with ⟨a, xs, rfl, h2, h3, h4⟩ | ⟨h1, _⟩
  · rw [tupOf_at h2, tupOf_at (s _ _ h2)]
  · rw [h1 _ s, h1 _ (Same.refl H)]
theorem thing_row {K : PySem.W.Frag} {H H' : Hp} (s : Same H H') {x : V} (h : Thing K H x) : rowV H' x = rowV H x := by
  unfold rowV
  rw [thing_tup s h]
/-- a value that is no object -/
theorem thing_flat {K : PySem.W.Frag} {H : Hp} {x : V} (h : ∀ a, x ≠ .ref a) {T : String} (t : TyX K H x (.type T)) (k : kitB T "tuple" = some false) : Thing K H x := by
  refine .inr ⟨fun H' _ => ?_, T, t, k⟩
  cases x with
  | ref a => exact absurd rfl (h a)
  | _ => rfl
theorem thing_str {K : PySem.W.Frag} {H : Hp} (z : Str) : Thing K H (.str z) := thing_flat (fun a => by intro e; cases e) (.base (.str z)) (by decide +kernel)
theorem thing_lst {K : PySem.W.Frag} {H : Hp} {a : Addr} {xs : List V} (h : H a = some (.lst xs)) : Thing K H (.ref a) := by
  refine .inr ⟨fun H' s => ?_, "list", .base (.lst h), by decide +kernel⟩
  show (match H' a with | some (.tup xs) => some xs | _ => none) = none
  rw [s _ _ h]
theorem thing_dct {K : PySem.W.Frag} {H : Hp} {a : Addr} {xs : List (Key × V)} (h : H a = some (.dK xs)) : Thing K H (.ref a) := by
  refine .inr ⟨fun H' s => ?_, "dict", .base (.dK h), by decide +kernel⟩
  show (match H' a with | some (.tup xs) => some xs | _ => none) = none
  rw [s _ _ h]
theorem known_str {K : PySem.W.Frag} {H : Hp} {z : Str} (h : z.length ≤ 1000) (o : PyData.strOk z = true) : Known K H (.str z) := .inl ⟨z, rfl, h, o⟩
theorem known_non {K : PySem.W.Frag} {H : Hp} : Known K H .non := .inr ⟨(fun z e => by cases e), "NoneType", .base .non, by decide +kernel⟩
theorem known_int {K : PySem.W.Frag} {H : Hp} (i : Int) : Known K H (.int i) := .inr ⟨(fun z e => by cases e), "int", .base (.int i), by decide +kernel⟩
theorem known_bl {K : PySem.W.Frag} {H : Hp} (b : Bool) : Known K H (.bl b) := .inr ⟨(fun z e => by cases e), "bool", .base (.bl b), by decide +kernel⟩
theorem known_tup {K : PySem.W.Frag} {H : Hp} {a : Addr} {xs : List V} (h : H a = some (.tup xs)) : Known K H (.ref a) := .inr ⟨(fun z e => by cases e), "tuple", .base (.tup h), by decide +kernel⟩
theorem known_lst {K : PySem.W.Frag} {H : Hp} {a : Addr} {xs : List V} (h : H a = some (.lst xs)) : Known K H (.ref a) := .inr ⟨(fun z e => by cases e), "list", .base (.lst h), by decide +kernel⟩
theorem known_dct {K : PySem.W.Frag} {H : Hp} {a : Addr} {xs : List (Key × V)} (h : H a = some (.dK xs)) : Known K H (.ref a) := .inr ⟨(fun z e => by cases e), "dict", .base (.dK h), by decide +kernel⟩
theorem item_str {K : PySem.W.Frag} {H : Hp} {z : Str} (h : z.length ≤ 1000) (o : PyData.strOk z = true) : Item K H (.str z) := ⟨known_str h o, .str z, .str z, (fine_str o).mono (by decide)⟩
theorem item_non {K : PySem.W.Frag} {H : Hp} : Item K H .non := ⟨known_non, .none, .non, fine_non.mono (by decide)⟩
/-- a text that is short, its signs signs -/
def Word (z : Str) : Prop := z.length ≤ 1000 ∧ PyData.strOk z = true
theorem Word.item {K : PySem.W.Frag} {H : Hp} {z : Str} (h : Word z) : Item K H (.str z) := item_str h.1 h.2
theorem strOk_append {x y : Str} (h : PyData.strOk x = true) (k : PyData.strOk y = true) : PyData.strOk (x ++ y) = true := by
  unfold PyData.strOk at *
  rw [Array.all_eq_true_iff_forall_mem] at *
  intro c hc
  have hc2 : c ∈ x.cps ++ y.cps := hc
  rcases Array.mem_append.mp hc2 with z | z
  · exact h c z
  · exact k c z
theorem strOk_cut {x : Str} (h : PyData.strOk x = true) (lo hi : Option Int) : PyData.strOk (cutS x lo hi) = true := by
  unfold PyData.strOk at *
  rw [Array.all_eq_true_iff_forall_mem] at *
  intro c hc
  have hc2 : c ∈ ((x.cps.toList.drop (HT.sIx x.length 0 lo)).take (HT.sIx x.length x.length hi - HT.sIx x.length 0 lo)) := by
    have : c ∈ (cutS x lo hi).cps.toList := by simpa using hc
    simpa [cutS] using this
  have h3 : c ∈ x.cps.toList := List.mem_of_mem_drop (List.mem_of_mem_take hc2)
  exact h c (by simpa using h3)
/-- repr(b), b a bool -/
theorem cr_reprB {X : Cx} : CallR X (.builtin "repr") (fun xs H Q => ∃ b : Bool, xs = [.bl b] ∧ Q (.str (if b then "True" else "False")) H) := by
  intro pins s σ H xs us Q I r h
  obtain ⟨b, rfl, q⟩ := h
  obtain ⟨u, rfl, ru⟩ := vals1 r
  cases (show u = Value.bool b from ru)
  refine PySem.P.repr_of_bool ⟨.str _, H, I.tok _, ⟨_, rfl⟩, ?_⟩
  exact q
/-- a comprehension over a text, its elements read off the signs -/
theorem lc_str {x : Str} {g : TG} {tt : TT} {te : TE} {vs : List Nat} {σ : St} {H1 : Hp} {D : Addr} {Qd : Hp → Prop} (Pv : Nat → Hp → Prop) (h0 : Pv 0 (upd H1 D (.lst [])))
    (hs : ∀ i c H, x.cps.toList[i]? = some c → Pv i H → g (.str ⟨#[c]⟩) (wipe σ vs) H fun σ2 H2 => wipe σ2 vs = wipe σ vs ∧ tt σ2 H2 fun b H3 =>
      if b = true then te σ2 H3 fun y H4 => ∃ acc, H4 D = some (.lst acc) ∧ acc.length < sizeLine ∧ Pv (i + 1) (upd H4 D (.lst (acc ++ [y]))) else Pv (i + 1) H3) (hd : ∀ H, Pv x.cps.toList.length H → Qd H) :
    ∃ W : Nat → Nat → Hp → Prop, (∃ m, W 0 m (upd H1 D (.lst []))) ∧ ∀ i m H, W i m H →
      ((Its x).stop i H ∧ Qd H) ∨ ((Its x).go i H ∧ ∃ Nx : Hp → Prop, (∀ H', Nx H' → ∃ m', m' < m ∧ W (i + 1) m' H') ∧ ∀ y H', (Its x).yld i H y H' → g y (wipe σ vs) H' fun σ2 H2 => wipe σ2 vs = wipe σ vs ∧ tt σ2 H2 fun b H3 =>
        if b = true then te σ2 H3 fun y H4 => ∃ acc, H4 D = some (.lst acc) ∧ acc.length < sizeLine ∧ Nx (upd H4 D (.lst (acc ++ [y]))) else Nx H3) := by
  have sz : x.cps.toList.length = x.cps.size := Array.length_toList
  refine ⟨fun i m H => m + i = x.cps.size ∧ Pv i H, ⟨x.cps.size, by omega, h0⟩, fun i m H ⟨em, p⟩ => ?_⟩
  by_cases hlt : i < x.cps.size
  · refine .inr ⟨hlt, Pv (i + 1), fun H' p' => ⟨m - 1, by omega, by omega, p'⟩, fun y H' hy => ?_⟩
    obtain ⟨rfl, c, hc, rfl⟩ := hy
    exact hs i c _ (by rw [Array.getElem?_toList]; exact hc) p
  · have e : i = x.cps.toList.length := by omega
    subst e
    exact .inl ⟨by show x.cps.size ≤ _; omega, hd H p⟩
theorem all_filter {α : Type} (f : α → Bool) : ∀ xs : List α, (xs.filter fun x => !f x).isEmpty = xs.all f
  | [] => rfl
  | x :: xs => by
    rw [List.filter_cons, List.all_cons, ← all_filter f xs]
    cases f x <;> rfl
theorem dps {K : PySem.W.Frag} {H : Hp} : ∀ {xs : List V}, (∀ x ∈ xs, ∃ d, Dp K H x d ∧ Fine 8 d) → ∃ ds, DpAll K H xs ds ∧ (∀ d ∈ ds, Fine 8 d) ∧ ds.isEmpty = xs.isEmpty
  | [], _ => ⟨[], .nil, (fun _ h => by cases h), rfl⟩
  | x :: xs, h => by
    obtain ⟨d, h1, h2⟩ := h x (List.mem_cons_self ..)
    obtain ⟨ds, h3, h4, _⟩ := dps (xs := xs) fun y hy => h y (List.mem_cons_of_mem _ hy)
    exact ⟨d :: ds, .cons h1 h3, fun e he => by
      rcases List.mem_cons.mp he with rfl | he
      · exact h2
      · exact h4 e he, rfl⟩
/-- is_name's promise -/
def spName (K : PySem.W.Frag) : Sp := fun vs H Q _ => ∃ x, vs = [x] ∧ Known K H x ∧ ∀ H', Same H H' → Q (.bl (nameV x)) H'
def spOf (K : PySem.W.Frag) (f : Hp → V → Bool) : Sp := fun vs H Q _ => ∃ x, vs = [x] ∧ Thing K H x ∧ ∀ H', Same H H' → Q (.bl (f H x)) H'
/-- what is asked of the module's names -/
structure NamesTxt (mg : Str → Option Value) : Prop where
  len : mg "len" = none
  isi : mg "isinstance" = none
  str : mg "str" = none
  tup : mg "tuple" = none
  all : mg "all" = none
  set : mg "set" = none
end Nb

set_option Elab.async false
set_option maxRecDepth 100000
set_option maxHeartbeats 4000000
namespace K02
open PySem L2 Nb
def topS (i : Nat) : Stmt := PySem.Challenge.pw_nextbehind_k02_names_recognized.main.body.getD i (.Pass ⟨0, 0, 0, 0⟩)
abbrev sSource : Stmt := topS 8
abbrev sNext : Stmt := topS 9
abbrev sPick : Stmt := topS 10
theorem scSource : FnScope ["_law_script", "_law_k", "_law_cell"] ["_law_script", "_law_k"] (defScope sSource) := ⟨rfl, rfl, rfl, by decide +kernel, rfl, by decide +kernel, by decide +kernel⟩
theorem scNext : FnScope ["_law_source_here", "_law_many", "_law_found", "_law_primes", "_law_prime"] ["_law_source_here", "_law_many"] (defScope sNext) := ⟨rfl, rfl, rfl, by decide +kernel, rfl, by decide +kernel, by decide +kernel⟩
theorem scPick : FnScope ["_law_source_here", "_law_items"] ["_law_source_here", "_law_items"] (defScope sPick) := ⟨rfl, rfl, rfl, by decide +kernel, rfl, by decide +kernel, by decide +kernel⟩
section
variable {P : Program} {w : World} {K : PySem.W.Frag} {mg : Str → Option Value} {base : Heap}
theorem ok_source {f : Addr} {fd : FuncData} (F : Fun K "_law_source" "_law_source" sSource f fd) (ml : mg "len" = none) : FnOk P w K mg base CX0 1 f fd ["_law_script", "_law_k"] (spSource K) := by
  refine F.ok scSource (fun vs H Q E h => ?_) (fun cdv A outer s H vs Q E hr h => ?_)
  · obtain ⟨a, ns, k, rfl, _⟩ := h
    rfl
  · obtain ⟨a, ns, k, rfl, hS, hlen, hk, q⟩ := h
    refine ⟨_, pss_cons (ps_set (i := 2) scSource.nd rfl (Or.inl rfl) (pe_ifExp (pt_cmpR (op_neD hr.units) (pv 0) (pe_lst pa_nil) (nomark _))
        (pe_ix ix_list (pv 0) (pe_op op_modN (pv 1) (pe_callB call_len_seq (by rfl) ml PySem.boot_len (pa_cons (pv 0) pa_nil))) (fun _ _ => rfl)) pe_int))
      (pss_one (ps_ret (pe_lst (pa_cons (pv 2) (pa_cons (pe_op op_mul pe_int (pv 1)) (pa_cons (pe_ifExp (pt_cmpR op_ge (pv 2) (pe_op op_pow pe_int pe_int) (nomark _))
        (pe_op op_fdivW (pv 2) (pe_op op_pow pe_int pe_int)) pe_int) pa_nil)))))), ?_⟩
    refine ⟨_, rfl, Nat.zero_le _, fun l hl => ?_⟩
    have s1 : Same H (upd H l (.lst [])) := same_new hl
    refine ⟨.list (ns.map PyData.int), .list [], .lst (s1.seq hS) (dp_ints ns), .lst (SqL.of upd_same) .nil, (fine_ints ns).shaped (by decide), by decide, _, rfl, ?_⟩

    rw [eqv_nil]
    cases ns with
    | nil =>
      refine iteF ?_
      refine ⟨_, rfl, _, rfl, _, _, rfl, rfl, .inl (by decide), _, rfl, _, _, rfl, rfl, ⟨by decide, by decide, by decide⟩, _, _, rfl, rfl, _, rfl, ?_⟩
      refine iteF ⟨(by show 3 ≤ sizeLine; decide), fun p hp => ?_⟩
      have s2 := s1.trans (same_new (o := .lst [.int 1, .int (3 * (k : Int)), .int 0]) hp)
      exact q _ p s2 (s1.free hp) ⟨1, 3 * (k : Int), 0, upd_same, by omega, by omega⟩
    | cons n ns =>
      refine iteT ?_
      have hl2 : ((k : Int).fmod ((((n :: ns).map V.int).length : Nat) : Int)) < (((n :: ns).map V.int).length : Nat) ∧ 0 ≤ (k : Int).fmod ((((n :: ns).map V.int).length : Nat) : Int) :=
        ⟨(fmod_pos _ (by simp; omega)).2, (fmod_pos _ (by simp; omega)).1⟩
      obtain ⟨j, hj⟩ : ∃ j : Nat, (k : Int).fmod ((((n :: ns).map V.int).length : Nat) : Int) = (j : Int) := ⟨_, (Int.toNat_of_nonneg hl2.2).symm⟩
      have hjl : j < (n :: ns).length := by
        have h1 := hl2.1
        rw [hj] at h1
        simp at h1 ⊢
        omega
      refine ⟨_, rfl, _, rfl, _, rfl, a, _, rfl, .inl (s1.seq hS), _, _, rfl, rfl, (by simp; omega), a, _, _, .int (n :: ns)[j], rfl, rfl, s1.seq hS, ?_, ?_⟩
      · rw [hj]
        refine atI_nat ?_
        rw [List.getElem?_map, List.getElem?_eq_getElem hjl]
        rfl
      · refine ⟨_, rfl, _, rfl, _, _, rfl, rfl, .inl (by decide), _, rfl, _, _, rfl, rfl, ⟨by decide, by decide, by decide⟩, _, _, rfl, rfl, _, rfl, ?_⟩
        refine ite2 (fun _ => ?_) (fun _ => ?_)
        · refine ⟨_, rfl, _, _, rfl, rfl, ⟨by decide, by decide, by decide⟩, _, _, rfl, rfl, wide_div (b := 70) (by decide) (by decide) (by decide) (by decide), (by show 3 ≤ sizeLine; decide), fun p hp => ?_⟩
          exact q _ p (s1.trans (same_new hp)) (s1.free hp) ⟨_, 3 * (k : Int), _, upd_same, by omega, by omega⟩
        · refine ⟨(by show 3 ≤ sizeLine; decide), fun p hp => ?_⟩
          exact q _ p (s1.trans (same_new hp)) (s1.free hp) ⟨_, 3 * (k : Int), _, upd_same, by omega, by omega⟩
theorem ok_next {f : Addr} {fd : FuncData} (F : Fun K "_law_next" "_law_next" sNext f fd) : FnOk P w K mg base CX0 1 f fd ["_law_source_here", "_law_many"] spNext := by
  refine F.ok scNext (fun vs H Q E h => ?_) (fun cdv A outer s H vs Q E hr h => ?_)
  · obtain ⟨p, m, b, G, rfl, _⟩ := h
    rfl
  · obtain ⟨p, m, b, G, rfl, m1, m2, ⟨c, n, r, hp, hn, hb⟩, hB, hG, hs, q⟩ := h
    refine ⟨_, pss_cons (ps_if (pt_cmpR op_gt (pe_ix ix_list (pv 0) pe_int (fun _ _ => rfl)) pe_int (nomark _))
        (pss_cons (ps_set (i := 2) scNext.nd rfl (Or.inl rfl) (pe_op op_modN (pe_ix ix_list (pv 0) pe_int (fun _ _ => rfl)) (pv 1)))
          (pss_cons (ps_asg (pe_op op_fdivN (pe_ix ix_list (pv 0) pe_int (fun _ _ => rfl)) (pv 1)) (pg_sub (pv 0) pe_int set_list)) (pss_one (ps_ret (pv 2))))) pss_nil)
      (pss_cons (ps_asg (pe_op op_add (pe_ix ix_list (pv 0) pe_int (fun _ _ => rfl)) pe_int) (pg_sub (pv 0) pe_int set_list))
      (pss_cons (ps_set (i := 3) scNext.nd rfl (Or.inl rfl) (pe_lst (pa_cons pe_int (pa_cons pe_int (pa_cons pe_int (pa_cons pe_int (pa_cons pe_int (pa_cons pe_int (pa_cons pe_int (pa_cons pe_int pa_nil))))))))))
      (pss_cons (ps_set (i := 4) scNext.nd rfl (Or.inl rfl) (pe_ix ix_list (pe_op op_cat (pv 3) (pe_lst (pa_cons pe_int (pa_cons pe_int (pa_cons pe_int pa_nil))))) (pe_op op_modN (pe_ix ix_list (pv 0) pe_int (fun _ _ => rfl)) pe_int) (fun _ _ => rfl)))
      (pss_one (ps_ret (pe_op op_modN (pe_op op_fdivN (pe_op op_modN (pe_op op_pow (pe_op op_add (pe_op op_add (pe_op op_modN (pe_ix ix_list (pv 0) pe_int (fun _ _ => rfl)) (pv 4))
        (pe_op op_mul pe_int (pe_ix ix_list (pv 0) pe_int (fun _ _ => rfl)))) pe_int) pe_int) (pv 4)) pe_int) (pv 1))))))), ?_⟩
    refine ⟨_, rfl, p, _, _, _, rfl, rfl, SqL.of hp, atI_nat (j := 2) rfl, _, _, rfl, rfl, _, rfl, ?_⟩
    refine ite2 (fun _ => ?_) (fun _ => ?_)
    · refine ⟨_, rfl, p, _, _, _, rfl, rfl, SqL.of hp, atI_nat (j := 2) rfl, _, rfl, _, _, rfl, rfl, (by omega), ?_⟩
      refine ⟨_, rfl, p, _, _, _, rfl, rfl, SqL.of hp, atI_nat (j := 2) rfl, _, rfl, _, _, rfl, rfl, ⟨by omega, by omega⟩, _, rfl, p, _, _, 2, rfl, rfl, hp, rfl, _, rfl, ?_⟩
      have f1 := fmod_pos r m1
      exact q _ _ f1.1 f1.2 (same_at hs hG) ⟨c, n, _, upd_same, hn, by omega⟩
    · refine ⟨_, rfl, p, _, _, _, rfl, rfl, SqL.of hp, atI_nat (j := 1) rfl, _, _, rfl, rfl, _, rfl, p, _, _, 1, rfl, rfl, hp, rfl, ?_⟩
      refine ⟨(by show 8 ≤ sizeLine; decide), fun l1 hl1 => ?_⟩
      have npl1 : p ≠ l1 := ne_of_none upd_same hl1
      have hp1 : (upd (upd H p (.lst [.int c, .int (n + 1), .int r])) l1 (.lst ((primes.take 8).map V.int))) p = some (.lst [.int c, .int (n + 1), .int r]) := by
        rw [upd_ne npl1]
        exact upd_same
      refine ⟨_, rfl, (by show 3 ≤ sizeLine; decide), fun l2 hl2 => ?_⟩
      have npl2 : p ≠ l2 := ne_of_none hp1 hl2
      have nl12 : l1 ≠ l2 := ne_of_none upd_same hl2
      refine ⟨l1, l2, _, _, rfl, rfl, (by rw [upd_ne nl12]; exact upd_same), upd_same, (by show 8 + 3 ≤ sizeLine; decide), fun l3 hl3 => ?_⟩
      have hp2 : ∀ o2 : HO, (upd (upd (upd H p (.lst [.int c, .int (n + 1), .int r])) l1 (.lst ((primes.take 8).map V.int))) l2 o2) p = some (.lst [.int c, .int (n + 1), .int r]) := fun o2 => by
        rw [upd_ne npl2]
        exact hp1
      have npl3 : p ≠ l3 := ne_of_none (hp2 _) hl3
      have hp3 : ∀ o2 o3 : HO, (upd (upd (upd (upd H p (.lst [.int c, .int (n + 1), .int r])) l1 (.lst ((primes.take 8).map V.int))) l2 o2) l3 o3) p = some (.lst [.int c, .int (n + 1), .int r]) := fun o2 o3 => by
        rw [upd_ne npl3]
        exact hp2 _
      have f0 := fmod_pos (n + 1) (show (1 : Int) ≤ 11 by decide)
      obtain ⟨pr, ep, pr2, pr31⟩ := prime_at _ f0.1 f0.2
      refine ⟨_, rfl, p, _, _, _, rfl, rfl, SqL.of (hp3 _ _), atI_nat (j := 1) rfl, _, _, rfl, rfl, (by show (11 : Int) ≠ 0; decide), l3, _, _, _, rfl, rfl, SqL.of upd_same, ep, ?_⟩
      have f1 := fmod_pos c (show 1 ≤ pr by omega)
      refine ⟨_, rfl, p, _, _, _, rfl, rfl, SqL.of (hp3 _ _), atI_nat (j := 0) rfl, _, rfl, _, _, rfl, rfl, (by omega), _, rfl, p, _, _, _, rfl, rfl, SqL.of (hp3 _ _), atI_nat (j := 1) rfl, _, _, rfl, rfl, .inl (by decide), _, _, rfl, rfl,
        _, _, rfl, rfl, _, _, rfl, rfl, ⟨by decide, by decide, (by omega)⟩, _, rfl, _, _, rfl, rfl, (by omega), _, _, rfl, rfl, ⟨by decide, by decide⟩, _, rfl, _, _, rfl, rfl, (by omega), ?_⟩
      have f2 := fmod_pos ((((c.fmod pr + 7919 * (n + 1) + 1) ^ (5 : Int).toNat).fmod pr).fdiv 13) m1
      have s1 : Same G (upd H p (.lst [.int c, .int (n + 1), .int r])) := same_at hs hG
      exact q _ _ f2.1 f2.2 (((s1.trans (same_new hl1)).trans (same_new hl2)).trans (same_new hl3)) ⟨c, n + 1, r, hp3 _ _, by omega, by omega⟩
theorem ok_pick {f fN : Addr} {fd fdN : FuncData} (F : Fun K "_law_pick" "_law_pick" sPick f fd) (FN : Fun K "_law_next" "_law_next" sNext fN fdN) (bN : Binds K fdN ["_law_source_here", "_law_many"] []) (gN : mg "_law_next" = some (.ref fN)) (ml : mg "len" = none) :
    FnOk P w K mg base CX0 2 f fd ["_law_source_here", "_law_items"] spPick := by
  have GN : FnOk P w K mg base CX0 1 fN fdN ["_law_source_here", "_law_many"] spNext := ok_next FN
  refine F.ok scPick (fun vs H Q E h => ?_) (fun cdv A outer s H vs Q E hr h => ?_)
  · obtain ⟨p, l, xs, b, G, rfl, _⟩ := h
    rfl
  · obtain ⟨p, l, xs, b, G, rfl, hl, h1, h2, hS, hB, hG, hs, q⟩ := h
    refine ⟨_, pss_one (ps_ret (pe_ix ix_list (pv 1) (pe_call GN hr (by rfl) gN FN.kp bN .nil pass0 (pa_cons (pv 0) (pa_cons (pe_callB call_len_seq (by rfl) ml PySem.boot_len (pa_cons (pv 1) pa_nil)) pa_nil))) (fun _ _ => rfl))), ?_⟩
    refine ⟨_, rfl, _, rfl, _, rfl, l, xs, rfl, .inl (SqL.of (hs _ _ hl)), p, _, b, G, rfl, (by omega), (by omega), hS, hB, hG, hs, fun H1 k k0 k1 s1 S1 => ?_⟩
    obtain ⟨j, rfl⟩ : ∃ j : Nat, k = (j : Int) := ⟨_, (Int.toNat_of_nonneg k0).symm⟩
    have hj : j < xs.length := by omega
    exact ⟨l, _, _, xs[j], rfl, rfl, SqL.of (s1 _ _ hl), atI_nat (List.getElem?_eq_getElem hj), q H1 _ (List.getElem_mem hj) s1 S1⟩
end
end K02

set_option Elab.async false
set_option maxRecDepth 100000
set_option maxHeartbeats 4000000
namespace K02
open PySem L2 Nb
def topT (i : Nat) : Stmt := PySem.Challenge.pw_nextbehind_k02_names_recognized.main.body.getD i (.Pass ⟨0, 0, 0, 0⟩)
abbrev sName : Stmt := topT 3
abbrev sNames : Stmt := topT 4
abbrev sDiff : Stmt := topT 5
abbrev sRow : Stmt := topT 6
abbrev sNameH : Stmt := topT 12
abbrev sRowH : Stmt := topT 13
theorem scName : FnScope ["thing", "letter"] ["thing"] (defScope sName) := ⟨rfl, rfl, rfl, by decide +kernel, rfl, by decide +kernel, by decide +kernel⟩
theorem scNames : FnScope ["thing", "item"] ["thing"] (defScope sNames) := ⟨rfl, rfl, rfl, by decide +kernel, rfl, by decide +kernel, by decide +kernel⟩
theorem scDiff : FnScope ["thing"] ["thing"] (defScope sDiff) := ⟨rfl, rfl, rfl, by decide +kernel, rfl, by decide +kernel, by decide +kernel⟩
theorem scRow : FnScope ["thing"] ["thing"] (defScope sRow) := ⟨rfl, rfl, rfl, by decide +kernel, rfl, by decide +kernel, by decide +kernel⟩
theorem scNameH : FnScope ["_law_thing", "_law_sign"] ["_law_thing"] (defScope sNameH) := ⟨rfl, rfl, rfl, by decide +kernel, rfl, by decide +kernel, by decide +kernel⟩
theorem scRowH : FnScope ["_law_thing", "_law_item"] ["_law_thing"] (defScope sRowH) := ⟨rfl, rfl, rfl, by decide +kernel, rfl, by decide +kernel, by decide +kernel⟩
section
variable {P : Program} {w : World} {K : PySem.W.Frag} {mg : Str → Option Value} {base : Heap}
theorem ok_name {f : Addr} {fd : FuncData} (F : Fun K "is_name" "is_name" sName f fd) (T : NamesTxt mg) {t8 : Tok} (m8 : mg "_LONGEST_NAME" = some (.int 8 t8)) : FnOk P w K mg base CX0 1 f fd ["thing"] (spName K) := by
  refine F.ok scName (fun vs H Q E h => ?_) (fun cdv A outer s H vs Q E hr h => ?_)
  · obtain ⟨x, rfl, _⟩ := h
    rfl
  · obtain ⟨x, rfl, hx, q⟩ := h
    refine ⟨_, pss_cons (ps_if (PW.pt (pw_or (pt_not (pt_val (pe_callB call_isi (by rfl) T.isi (by decide +kernel) (pa_cons (pv 0) (pa_cons (pe_bltn (v := .ty "str") (by rfl) T.str (by decide +kernel) rfl) pa_nil)))))
        (pw_or1 (pt_not (pt_chain op_le op_le pe_int (pe_callB call_len_str (by rfl) T.len PySem.boot_len (pa_cons (pv 0) pa_nil)) (pe_glob (v := .int 8) (by rfl) m8 ⟨_, rfl⟩)))))) (pss_one (ps_ret pe_bl)) pss_nil)
      (pss_one (ps_ret (pe_callB (cr_all rfl) (by rfl) T.all (by decide +kernel) (pa_cons (pe_lc (own := [("letter", 1)]) (g := gName 1) (tt := tYes) rfl scName.nd (pi_str (pv 0))
        (blkOk_by (N := ["thing", "letter"]) (sc := defScope sName) (by decide +kernel)) (fun _ _ _ _ _ => pg_name (i := 1) scName.nd rfl (Or.inl rfl)) (fun _ _ _ _ _ => pts_nil)
        (fun _ _ _ _ _ => pe_chain op_le_str op_le_str pe_str (pv 1) pe_str)) pa_nil)))), ?_⟩
    rcases hx with ⟨z, rfl, hz, _⟩ | ⟨hno, ty, hty, hk⟩
    · refine ⟨_, rfl, _, _, .type "str", _, true, rfl, .ty _, .base (.str z), kit_ty (by decide +kernel), _, rfl, ?_⟩
      refine iteF ⟨_, rfl, z, rfl, Nat.le_of_lt (small1000 hz), ?_⟩
      refine ⟨_, _, rfl, rfl, _, rfl, ?_⟩
      have big : ∀ b : Bool, isNm z = ((decide ((1 : Int) ≤ (z.length : Int)) && decide ((z.length : Int) ≤ 8)) && z.cps.toList.all letterOk) := fun _ => rfl
      by_cases h1 : (1 : Int) ≤ (z.length : Int)
      · rw [decide_eq_true h1]
        refine iteT ?_
        refine ⟨_, _, rfl, rfl, _, rfl, ?_⟩
        by_cases h8 : (z.length : Int) ≤ 8
        · rw [decide_eq_true h8]
          refine iteF ?_
          refine ⟨_, rfl, z, rfl, fun D hD => ?_⟩
          refine lc_str (x := z) (fun i H' => Same H H' ∧ H' D = some (.lst (((z.cps.toList.take i).map letterOk).map V.bl))) ⟨same_new hD, upd_same⟩ (fun i c H' hc ⟨s1, eD⟩ => ?_) (fun H' ⟨s1, eD⟩ => ?_)
          · refine ⟨rfl, ?_⟩
            have hil : i < z.cps.toList.length := (List.getElem?_eq_some_iff.mp hc).1
            have hzl : z.cps.toList.length = z.length := Array.length_toList
            have next : (((z.cps.toList.take i).map letterOk).map V.bl) ++ [V.bl (letterOk c)] = (((z.cps.toList.take (i + 1)).map letterOk).map V.bl) := by
              rw [List.take_add_one, hc]
              simp
            have sm : (((z.cps.toList.take i).map letterOk).map V.bl).length < sizeLine := by
              rw [List.length_map, List.length_map, List.length_take]
              exact Nat.lt_of_le_of_lt (Nat.min_le_left _ _) (small1000 (by omega))
            refine ⟨_, rfl, _, _, rfl, rfl, _, rfl, ?_⟩
            by_cases ha : [c] < lowA
            · rw [decide_eq_true (show ((⟨#[c]⟩ : Str).cps.toList < ("a" : Str).cps.toList) from ha)]
              refine iteF ⟨_, eD, sm, same_at s1 hD, ?_⟩
              have e : letterOk c = false := by
                unfold letterOk
                rw [decide_eq_true ha]
                rfl
              rw [← next, e]
              exact upd_same
            · rw [decide_eq_false (show ¬ ((⟨#[c]⟩ : Str).cps.toList < ("a" : Str).cps.toList) from ha)]
              refine iteT ⟨_, _, rfl, rfl, _, eD, sm, same_at s1 hD, ?_⟩
              have e : letterOk c = !decide (lowZ < [c]) := by
                unfold letterOk
                rw [decide_eq_false ha]
                rfl
              rw [← next, e]
              exact upd_same
          · refine ⟨D, _, rfl, SqL.of eD, ?_⟩
            have e : (((z.cps.toList.take z.cps.toList.length).map letterOk).all id) = isNm z := by
              rw [List.take_length]
              unfold isNm
              rw [decide_eq_true h1, decide_eq_true h8]
              simp [List.all_map]
            rw [e]
            exact q H' s1
        · rw [decide_eq_false h8]
          refine iteT ?_
          have e : nameV (.str z) = false := by
            show isNm z = false
            unfold isNm
            rw [decide_eq_false h8]
            simp
          rw [← e]
          exact q H (Same.refl H)
      · rw [decide_eq_false h1]
        refine iteF ⟨_, rfl, ?_⟩
        refine iteT ?_
        have e : nameV (.str z) = false := by
          show isNm z = false
          unfold isNm
          rw [decide_eq_false h1]
          simp
        rw [← e]
        exact q H (Same.refl H)
    · refine ⟨_, rfl, _, _, .type ty, _, false, rfl, .ty _, hty, kit_ty hk, _, rfl, ?_⟩
      refine iteT ?_
      have e : nameV x = false := by
        cases x with
        | str z => exact absurd rfl (hno z)
        | _ => rfl
      rw [← e]
      exact q H (Same.refl H)
theorem ok_names {f fN : Addr} {fd fdN : FuncData} (F : Fun K "are_names" "are_names" sNames f fd) (T : NamesTxt mg) (FN : Fun K "is_name" "is_name" sName fN fdN) (bN : Binds K fdN ["thing"] []) (gN : mg "is_name" = some (.ref fN))
    {t8 : Tok} (m8 : mg "_LONGEST_NAME" = some (.int 8 t8)) : FnOk P w K mg base CX0 2 f fd ["thing"] (spOf K namesV) := by
  have GN : FnOk P w K mg base CX0 1 fN fdN ["thing"] (spName K) := ok_name FN T m8
  refine F.ok scNames (fun vs H Q E h => ?_) (fun cdv A outer s H vs Q E hr h => ?_)
  · obtain ⟨x, rfl, _⟩ := h
    rfl
  · obtain ⟨x, rfl, hx, q⟩ := h
    refine ⟨_, pss_one (ps_ret (pe_and (pe_callB call_isi (by rfl) T.isi (by decide +kernel) (pa_cons (pv 0) (pa_cons (pe_bltn (v := .ty "tuple") (by rfl) T.tup (by decide +kernel) rfl) pa_nil)))
      (pe_one (pe_callB (cr_all rfl) (by rfl) T.all (by decide +kernel) (pa_cons (pe_lc (own := [("item", 1)]) (g := gName 1) (tt := tYes) rfl scNames.nd (pi_tup (pv 0))
        (blkOk_by (N := ["thing", "item"]) (sc := defScope sNames) (by decide +kernel)) (fun _ _ _ _ _ => pg_name (i := 1) scNames.nd rfl (Or.inl rfl)) (fun _ _ _ _ _ => pts_nil)
        (fun _ _ _ _ _ => pe_call GN hr (by rfl) gN FN.kp bN .nil pass0 (pa_cons (pv 1) pa_nil))) pa_nil))))), ?_⟩
    rcases hx with ⟨a, xs, rfl, ha, hl, hi⟩ | ⟨ht, ty, hty, hk⟩
    · refine ⟨_, rfl, _, _, .type "tuple", _, true, rfl, .ty _, .base (.tup ha), kit_ty (by decide +kernel), _, rfl, ?_⟩
      refine iteT ⟨_, rfl, a, rfl, ⟨_, SqT.of ha⟩, fun D hD => ?_⟩
      refine lc_tup (K := K) (a := a) (xs := xs) (fun i H' => Same H H' ∧ H' D = some (.lst (((xs.take i).map nameV).map V.bl))) ⟨same_new hD, upd_same⟩ (fun i H' _ ⟨s1, _⟩ => SqT.of (s1 _ _ ha)) (fun i y H' hy ⟨s1, eD⟩ => ?_) (fun H' ⟨s1, eD⟩ => ?_)
      · refine ⟨rfl, _, rfl, y, rfl, known_same s1 (hi y (List.mem_of_getElem? hy)).1, fun H2 s2 => ?_⟩
        refine ⟨_, s2 _ _ eD, ?_, same_at (s1.trans s2) hD, ?_⟩
        · rw [List.length_map, List.length_map, List.length_take]
          exact Nat.lt_of_le_of_lt (Nat.min_le_right _ _) (small1000 hl)
        · rw [upd_same, List.take_add_one, hy]
          simp
      · refine ⟨D, _, rfl, SqL.of eD, ?_⟩
        have e : ((xs.take xs.length).map nameV).all id = namesV H (.ref a) := by
          unfold namesV
          rw [tupOf_at ha, List.take_length]
          simp [List.all_map]
        rw [e]
        exact q H' s1
    · refine ⟨_, rfl, _, _, .type ty, _, false, rfl, .ty _, hty, kit_ty hk, _, rfl, ?_⟩
      refine iteF ?_
      have e : namesV H x = false := by
        unfold namesV
        rw [ht _ (Same.refl _)]
      rw [← e]
      exact q H (Same.refl H)
theorem ok_diff {f fN fA : Addr} {fd fdN fdA : FuncData} (F : Fun K "are_different_names" "are_different_names" sDiff f fd) (T : NamesTxt mg) (FN : Fun K "is_name" "is_name" sName fN fdN) (bN : Binds K fdN ["thing"] []) (gN : mg "is_name" = some (.ref fN))
    (FA : Fun K "are_names" "are_names" sNames fA fdA) (bA : Binds K fdA ["thing"] []) (gA : mg "are_names" = some (.ref fA))
    {t8 : Tok} (m8 : mg "_LONGEST_NAME" = some (.int 8 t8)) : FnOk P w K mg base CX0 3 f fd ["thing"] (spOf K diffOf) := by
  have GA : FnOk P w K mg base CX0 2 fA fdA ["thing"] (spOf K namesV) := ok_names FA T FN bN gN m8
  refine F.ok scDiff (fun vs H Q E h => ?_) (fun cdv A outer s H vs Q E hr h => ?_)
  · obtain ⟨x, rfl, _⟩ := h
    rfl
  · obtain ⟨x, rfl, hx, q⟩ := h
    refine ⟨_, pss_one (ps_ret (pe_and (pe_call GA hr (by rfl) gA FA.kp bA .nil pass0 (pa_cons (pv 0) pa_nil))
      (pe_one (pe_cmpR op_eq (pe_manyS (by rfl) T.len (by rfl) T.set (pv 0)) (pe_callB call_len_seq (by rfl) T.len PySem.boot_len (pa_cons (pv 0) pa_nil)) (nomark _))))), ?_⟩
    refine ⟨_, rfl, x, rfl, hx, fun H' s1 => ?_⟩
    refine ⟨_, rfl, ?_⟩
    rcases hx with ⟨a, xs, rfl, ha, hl, hi⟩ | ⟨ht, ty, hty, hk⟩
    · have e1 : namesV H (.ref a) = xs.all nameV := by
        unfold namesV
        rw [tupOf_at ha]
      have e2 : diffOf H (.ref a) = diffV xs := by
        unfold diffOf
        rw [tupOf_at ha]
      rw [e1]
      by_cases hn : xs.all nameV = true
      · rw [hn]
        refine iteT ⟨_, rfl, a, strsOf xs, rfl, ?_, ?_, _, rfl, a, xs, rfl, .inr (SqT.of (s1 _ _ ha)), rfl, ?_⟩
        · rw [← strs_map hn]
          exact SqT.of (s1 _ _ ha)
        · have : (strsOf xs).length ≤ xs.length := List.length_filterMap_le ..
          omega
        · have e3 : decide (V.int ((seen (strsOf xs)).length : Nat) = V.int (xs.length : Nat)) = diffOf H (.ref a) := by
            rw [e2]
            unfold diffV
            rw [hn, Bool.true_and, Bool.eq_iff_iff]
            simp
          show Q (.bl (decide (V.int ((seen (strsOf xs)).length : Nat) = V.int (xs.length : Nat)))) H'
          rw [e3]
          exact q H' s1
      · have hf : xs.all nameV = false := by simpa using hn
        rw [hf]
        refine iteF ?_
        have e3 : diffOf H (.ref a) = false := by
          rw [e2]
          unfold diffV
          rw [hf]
          rfl
        rw [← e3]
        exact q H' s1
    · have e1 : namesV H x = false := by
        unfold namesV
        rw [ht _ (Same.refl _)]
      have e2 : diffOf H x = false := by
        unfold diffOf
        rw [ht _ (Same.refl _)]
      rw [e1]
      refine iteF ?_
      rw [← e2]
      exact q H' s1
theorem ok_row {f fD : Addr} {fd fdD : FuncData} (F : Fun K "is_row" "is_row" sRow f fd) (T : NamesTxt mg) (FD : Fun K "are_different_names" "are_different_names" sDiff fD fdD) (bD : Binds K fdD ["thing"] []) (gD : mg "are_different_names" = some (.ref fD))
    (GD : FnOk P w K mg base CX0 3 fD fdD ["thing"] (spOf K diffOf)) {t4 : Tok} (m4 : mg "_LONGEST_ROW" = some (.int 4 t4)) : FnOk P w K mg base CX0 4 f fd ["thing"] (spOf K rowV) := by
  refine F.ok scRow (fun vs H Q E h => ?_) (fun cdv A outer s H vs Q E hr h => ?_)
  · obtain ⟨x, rfl, _⟩ := h
    rfl
  · obtain ⟨x, rfl, hx, q⟩ := h
    refine ⟨_, pss_one (ps_ret (pe_and (pe_call GD hr (by rfl) gD FD.kp bD .nil pass0 (pa_cons (pv 0) pa_nil))
      (pe_one (pe_cmpR op_le (pe_callB call_len_seq (by rfl) T.len PySem.boot_len (pa_cons (pv 0) pa_nil)) (pe_glob (v := .int 4) (by rfl) m4 ⟨_, rfl⟩) (nomark _))))), ?_⟩
    refine ⟨_, rfl, x, rfl, hx, fun H' s1 => ?_⟩
    refine ⟨_, rfl, ?_⟩
    rcases hx with ⟨a, xs, rfl, ha, hl, hi⟩ | ⟨ht, ty, hty, hk⟩
    · have e1 : diffOf H (.ref a) = diffV xs := by
        unfold diffOf
        rw [tupOf_at ha]
      have e2 : rowV H (.ref a) = (diffV xs && decide ((xs.length : Int) ≤ 4)) := by
        unfold rowV
        rw [tupOf_at ha]
      rw [e1]
      cases hd : diffV xs with
      | true =>
        refine iteT ⟨_, rfl, a, xs, rfl, .inr (SqT.of (s1 _ _ ha)), _, _, rfl, rfl, ?_⟩
        have e3 : rowV H (.ref a) = decide ((xs.length : Int) ≤ 4) := by
          rw [e2, hd, Bool.true_and]
        show Q (.bl (decide ((xs.length : Int) ≤ 4))) H'
        rw [← e3]
        exact q H' s1
      | false =>
        refine iteF ?_
        have e3 : rowV H (.ref a) = false := by
          rw [e2, hd]
          rfl
        rw [← e3]
        exact q H' s1
    · have e1 : diffOf H x = false := by
        unfold diffOf
        rw [ht _ (Same.refl _)]
      have e2 : rowV H x = false := by
        unfold rowV
        rw [ht _ (Same.refl _)]
      rw [e1]
      refine iteF ?_
      rw [← e2]
      exact q H' s1
theorem ok_nameH {f : Addr} {fd : FuncData} (F : Fun K "_law_is_name_here" "_law_is_name_here" sNameH f fd) (T : NamesTxt mg) : FnOk P w K mg base CX0 1 f fd ["_law_thing"] (spName K) := by
  refine F.ok scNameH (fun vs H Q E h => ?_) (fun cdv A outer s H vs Q E hr h => ?_)
  · obtain ⟨x, rfl, _⟩ := h
    rfl
  · obtain ⟨x, rfl, hx, q⟩ := h
    refine ⟨_, pss_cons (ps_if (PW.pt (pw_or (pt_not (pt_val (pe_callB call_isi (by rfl) T.isi (by decide +kernel) (pa_cons (pv 0) (pa_cons (pe_bltn (v := .ty "str") (by rfl) T.str (by decide +kernel) rfl) pa_nil)))))
        (pw_or1 (pt_not (pt_chain op_le op_le pe_int (pe_callB call_len_str (by rfl) T.len PySem.boot_len (pa_cons (pv 0) pa_nil)) pe_int))))) (pss_one (ps_ret pe_bl)) pss_nil)
      (pss_one (ps_ret (pe_cmpR (op_eqD hr.units) (pe_lc (own := [("_law_sign", 1)]) (g := gName 1) rfl scNameH.nd (pi_str (pv 0))
        (blkOk_by (N := ["_law_thing", "_law_sign"]) (sc := defScope sNameH) (by decide +kernel)) (fun _ _ _ _ _ => pg_name (i := 1) scNameH.nd rfl (Or.inl rfl)) (fun _ _ _ _ _ => pts_one (pt_not (pt_chain op_le_str op_le_str pe_str (pv 1) pe_str)))
        (fun _ _ _ _ _ => pv 1)) (pe_lst pa_nil) (nomark _)))), ?_⟩
    rcases hx with ⟨z, rfl, hz, hzo⟩ | ⟨hno, ty, hty, hk⟩
    · refine ⟨_, rfl, _, _, .type "str", _, true, rfl, .ty _, .base (.str z), kit_ty (by decide +kernel), _, rfl, ?_⟩
      refine iteF ⟨_, rfl, z, rfl, Nat.le_of_lt (small1000 hz), ?_⟩
      refine ⟨_, _, rfl, rfl, _, rfl, ?_⟩
      by_cases h1 : (1 : Int) ≤ (z.length : Int)
      · rw [decide_eq_true h1]
        refine iteT ?_
        refine ⟨_, _, rfl, rfl, _, rfl, ?_⟩
        by_cases h8 : (z.length : Int) ≤ 8
        · rw [decide_eq_true h8]
          refine iteF ?_
          refine ⟨_, rfl, z, rfl, fun D hD => ?_⟩
          refine lc_str (x := z) (fun i H' => Same H H' ∧ H' D = some (.lst (((z.cps.toList.take i).filter fun c => !letterOk c).map fun c => V.str ⟨#[c]⟩))) ⟨same_new hD, upd_same⟩ (fun i c H' hc ⟨s1, eD⟩ => ?_) (fun H' ⟨s1, eD⟩ => ?_)
          · refine ⟨rfl, ?_⟩
            have hil : i < z.cps.toList.length := (List.getElem?_eq_some_iff.mp hc).1
            have hzl : z.cps.toList.length = z.length := Array.length_toList
            have more : (z.cps.toList.take (i + 1)).filter (fun c => !letterOk c) = (z.cps.toList.take i).filter (fun c => !letterOk c) ++ (if letterOk c then [] else [c]) := by
              rw [List.take_add_one, hc]
              cases hk : letterOk c <;> simp [hk]
            have sm : (((z.cps.toList.take i).filter fun c => !letterOk c).map fun c => V.str ⟨#[c]⟩).length < sizeLine := by
              rw [List.length_map]
              have h2 := List.length_filter_le (fun c => !letterOk c) (z.cps.toList.take i)
              rw [List.length_take] at h2
              exact Nat.lt_of_le_of_lt (Nat.le_trans h2 (Nat.min_le_left _ _)) (small1000 (by omega))
            have bad : letterOk c = false → ∀ H2 : Hp, H2 = H' → (∃ acc, H2 D = some (.lst acc) ∧ acc.length < sizeLine ∧ Same H (upd H2 D (.lst (acc ++ [V.str ⟨#[c]⟩]))) ∧ (upd H2 D (.lst (acc ++ [V.str ⟨#[c]⟩]))) D = some (.lst (((z.cps.toList.take (i + 1)).filter fun c => !letterOk c).map fun c => V.str ⟨#[c]⟩))) := fun e H2 e2 => by
              subst e2
              refine ⟨_, eD, sm, same_at s1 hD, ?_⟩
              rw [upd_same, more, e]
              simp
            refine ⟨_, rfl, _, _, rfl, rfl, _, rfl, ?_⟩
            by_cases ha : [c] < lowA
            · rw [decide_eq_true (show ((⟨#[c]⟩ : Str).cps.toList < ("a" : Str).cps.toList) from ha)]
              refine iteF ⟨_, rfl, ?_⟩
              refine iteT ⟨_, rfl, bad ?_ _ rfl⟩
              unfold letterOk
              rw [decide_eq_true ha]
              rfl
            · rw [decide_eq_false (show ¬ ((⟨#[c]⟩ : Str).cps.toList < ("a" : Str).cps.toList) from ha)]
              refine iteT ⟨_, _, rfl, rfl, _, rfl, ?_⟩
              by_cases hzz : lowZ < [c]
              · rw [decide_eq_true (show (("z" : Str).cps.toList < (⟨#[c]⟩ : Str).cps.toList) from hzz)]
                refine iteT ⟨_, rfl, bad ?_ _ rfl⟩
                unfold letterOk
                rw [decide_eq_true hzz]
                simp
              · rw [decide_eq_false (show ¬ (("z" : Str).cps.toList < (⟨#[c]⟩ : Str).cps.toList) from hzz)]
                refine iteF ⟨s1, ?_⟩
                have e : letterOk c = true := by
                  unfold letterOk
                  rw [decide_eq_false ha, decide_eq_false hzz]
                  rfl
                rw [eD, more, e]
                simp
          · refine ⟨Nat.zero_le _, fun D2 hD2 => ?_⟩
            have s2 : Same H' (upd H' D2 (.lst [])) := same_new hD2
            obtain ⟨ds, d1, d2, d3⟩ := dps (K := K) (H := H') (xs := ((z.cps.toList.take z.cps.toList.length).filter fun c => !letterOk c).map fun c => V.str ⟨#[c]⟩) (fun x hx => by
              obtain ⟨c, hc, rfl⟩ := List.mem_map.mp hx
              have hcz : c ∈ z.cps.toList := List.mem_of_mem_take (List.mem_filter.mp hc).1
              refine ⟨_, .str _, (fine_str ?_).mono (by decide)⟩
              unfold PyData.strOk at hzo ⊢
              rw [Array.all_eq_true_iff_forall_mem] at hzo
              have h3 := hzo c (by simpa using hcz)
              simpa using h3)
            refine ⟨.list ds, .list [], .lst (s2.seq (SqL.of eD)) (dp_sames s2 ds _ d1), .lst (SqL.of upd_same) .nil, (fine_list d2).shaped (by decide), by decide, ?_⟩
            have e : PyData.eqv (.list ds) (.list []) = nameV (.str z) := by
              rw [eqv_nil, d3]
              show _ = isNm z
              unfold isNm
              rw [decide_eq_true h1, decide_eq_true h8, List.take_length, ← all_filter letterOk z.cps.toList]
              cases (z.cps.toList.filter fun c => !letterOk c) <;> rfl
            rw [e]
            exact q _ (s1.trans s2)
        · rw [decide_eq_false h8]
          refine iteT ?_
          have e : nameV (.str z) = false := by
            show isNm z = false
            unfold isNm
            rw [decide_eq_false h8]
            simp
          rw [← e]
          exact q H (Same.refl H)
      · rw [decide_eq_false h1]
        refine iteF ⟨_, rfl, ?_⟩
        refine iteT ?_
        have e : nameV (.str z) = false := by
          show isNm z = false
          unfold isNm
          rw [decide_eq_false h1]
          simp
        rw [← e]
        exact q H (Same.refl H)
    · refine ⟨_, rfl, _, _, .type ty, _, false, rfl, .ty _, hty, kit_ty hk, _, rfl, ?_⟩
      refine iteT ?_
      have e : nameV x = false := by
        cases x with
        | str z => exact absurd rfl (hno z)
        | _ => rfl
      rw [← e]
      exact q H (Same.refl H)
theorem ok_rowH {f fN : Addr} {fd fdN : FuncData} (F : Fun K "_law_is_row_here" "_law_is_row_here" sRowH f fd) (T : NamesTxt mg) (FN : Fun K "_law_is_name_here" "_law_is_name_here" sNameH fN fdN) (bN : Binds K fdN ["_law_thing"] []) (gN : mg "_law_is_name_here" = some (.ref fN)) :
    FnOk P w K mg base CX0 2 f fd ["_law_thing"] (spOf K rowV) := by
  have GN : FnOk P w K mg base CX0 1 fN fdN ["_law_thing"] (spName K) := ok_nameH FN T
  refine F.ok scRowH (fun vs H Q E h => ?_) (fun cdv A outer s H vs Q E hr h => ?_)
  · obtain ⟨x, rfl, _⟩ := h
    rfl
  · obtain ⟨x, rfl, hx, q⟩ := h
    refine ⟨_, pss_cons (ps_if (PW.pt (pw_or (pt_not (pt_val (pe_callB call_isi (by rfl) T.isi (by decide +kernel) (pa_cons (pv 0) (pa_cons (pe_bltn (v := .ty "tuple") (by rfl) T.tup (by decide +kernel) rfl) pa_nil)))))
        (pw_or1 (pt_cmpR op_gt (pe_callB call_len_seq (by rfl) T.len PySem.boot_len (pa_cons (pv 0) pa_nil)) pe_int (nomark _))))) (pss_one (ps_ret pe_bl)) pss_nil)
      (pss_one (ps_ret (pe_and (pe_cmpR (op_eqD hr.units) (pe_lc (own := [("_law_item", 1)]) (g := gName 1) rfl scRowH.nd (pi_tup (pv 0))
        (blkOk_by (N := ["_law_thing", "_law_item"]) (sc := defScope sRowH) (by decide +kernel)) (fun _ _ _ _ _ => pg_name (i := 1) scRowH.nd rfl (Or.inl rfl))
        (fun _ _ _ _ _ => pts_one (pt_not (pt_val (pe_call GN hr (by rfl) gN FN.kp bN .nil pass0 (pa_cons (pv 1) pa_nil)))))
        (fun _ _ _ _ _ => pv 1)) (pe_lst pa_nil) (nomark _)) (pe_one (pe_cmpR op_eq (pe_manyS (by rfl) T.len (by rfl) T.set (pv 0)) (pe_callB call_len_seq (by rfl) T.len PySem.boot_len (pa_cons (pv 0) pa_nil)) (nomark _)))))), ?_⟩
    rcases hx with ⟨a, xs, rfl, ha, hl, hi⟩ | ⟨ht, ty, hty, hk⟩
    · refine ⟨_, rfl, _, _, .type "tuple", _, true, rfl, .ty _, .base (.tup ha), kit_ty (by decide +kernel), _, rfl, ?_⟩
      refine iteF ⟨_, rfl, a, xs, rfl, .inr (SqT.of ha), _, _, rfl, rfl, _, rfl, ?_⟩
      have e2 : rowV H (.ref a) = (diffV xs && decide ((xs.length : Int) ≤ 4)) := by
        unfold rowV
        rw [tupOf_at ha]
      refine ite2 (fun h4 => ?_) (fun h4 => ?_)
      · have h5 : (4 : Int) < (xs.length : Int) := of_decide_eq_true h4
        have e3 : rowV H (.ref a) = false := by
          rw [e2, decide_eq_false (by omega), Bool.and_false]
        rw [← e3]
        exact q H (Same.refl H)
      · have h5 : (xs.length : Int) ≤ 4 := by
          have : ¬ (4 : Int) < (xs.length : Int) := fun z => h4 (decide_eq_true z)
          omega
        have e3 : rowV H (.ref a) = diffV xs := by
          rw [e2, decide_eq_true h5, Bool.and_true]
        refine ⟨_, rfl, a, rfl, ⟨_, SqT.of ha⟩, fun D hD => ?_⟩
        refine lc_tup (K := K) (a := a) (xs := xs) (fun i H' => Same H H' ∧ H' D = some (.lst ((xs.take i).filter fun x => !nameV x))) ⟨same_new hD, upd_same⟩ (fun i H' _ ⟨s1, _⟩ => SqT.of (s1 _ _ ha)) (fun i y H' hy ⟨s1, eD⟩ => ?_) (fun H' ⟨s1, eD⟩ => ?_)
        · refine ⟨rfl, _, rfl, y, rfl, known_same s1 (hi y (List.mem_of_getElem? hy)).1, fun H2 s2 => ?_⟩
          have more : (xs.take (i + 1)).filter (fun x => !nameV x) = (xs.take i).filter (fun x => !nameV x) ++ (if nameV y then [] else [y]) := by
            rw [List.take_add_one, hy]
            cases hk : nameV y <;> simp [hk]
          refine ⟨_, rfl, ?_⟩
          cases hk : nameV y with
          | true =>
            refine iteF ⟨s1.trans s2, ?_⟩
            rw [s2 _ _ eD, more, hk]
            simp
          | false =>
            refine iteT ⟨_, rfl, _, s2 _ _ eD, ?_, same_at (s1.trans s2) hD, ?_⟩
            · have h2 := List.length_filter_le (fun x => !nameV x) (xs.take i)
              rw [List.length_take] at h2
              exact Nat.lt_of_le_of_lt (Nat.le_trans h2 (Nat.min_le_right _ _)) (small1000 hl)
            · rw [upd_same, more, hk]
              simp
        · refine ⟨Nat.zero_le _, fun D2 hD2 => ?_⟩
          have s2 : Same H' (upd H' D2 (.lst [])) := same_new hD2
          obtain ⟨ds, d1, d2, d3⟩ := dps (K := K) (H := H') (xs := (xs.take xs.length).filter fun x => !nameV x) (fun x hx => by
            have hxx : x ∈ xs := List.mem_of_mem_take (List.mem_filter.mp hx).1
            exact (item_same s1 (hi x hxx)).2)
          refine ⟨.list ds, .list [], .lst (s2.seq (SqL.of eD)) (dp_sames s2 ds _ d1), .lst (SqL.of upd_same) .nil, (fine_list d2).shaped (by decide), by decide, _, rfl, ?_⟩
          have e : PyData.eqv (.list ds) (.list []) = xs.all nameV := by
            rw [eqv_nil, d3, List.take_length]
            exact all_filter nameV xs
          rw [e]
          have s3 := s1.trans s2
          by_cases hn : xs.all nameV = true
          · rw [hn]
            refine iteT ⟨_, rfl, a, strsOf xs, rfl, ?_, ?_, _, rfl, a, xs, rfl, .inr (SqT.of (s3 _ _ ha)), rfl, ?_⟩
            · rw [← strs_map hn]
              exact SqT.of (s3 _ _ ha)
            · have : (strsOf xs).length ≤ xs.length := List.length_filterMap_le ..
              omega
            · have e4 : decide (V.int ((seen (strsOf xs)).length : Nat) = V.int (xs.length : Nat)) = rowV H (.ref a) := by
                rw [e3]
                unfold diffV
                rw [hn, Bool.true_and, Bool.eq_iff_iff]
                simp
              show Q (.bl (decide (V.int ((seen (strsOf xs)).length : Nat) = V.int (xs.length : Nat)))) _
              rw [e4]
              exact q _ s3
          · have hf : xs.all nameV = false := by simpa using hn
            rw [hf]
            refine iteF ?_
            have e4 : rowV H (.ref a) = false := by
              rw [e3]
              unfold diffV
              rw [hf]
              rfl
            rw [← e4]
            exact q _ s3
    · refine ⟨_, rfl, _, _, .type ty, _, false, rfl, .ty _, hty, kit_ty hk, _, rfl, ?_⟩
      refine iteT ?_
      have e : rowV H x = false := by
        unfold rowV
        rw [ht _ (Same.refl _)]
      rw [← e]
      exact q H (Same.refl H)
end
end K02

set_option Elab.async false
set_option maxRecDepth 100000
set_option maxHeartbeats 4000000
namespace K02
open PySem L2 Nb
abbrev sAlpha : Stmt := topT 11
abbrev sSome : Stmt := topT 14
abbrev sLaw : Stmt := topT 15
theorem scAlpha : FnScope ["_law_source_here", "_law_most", "_law_found", "_law_turn", "_law_spot"] ["_law_source_here", "_law_most"] (defScope sAlpha) := ⟨rfl, rfl, rfl, by decide +kernel, rfl, by decide +kernel, by decide +kernel⟩
theorem scSome : FnScope ["_law_source_here"] ["_law_source_here"] (defScope sSome) := ⟨rfl, rfl, rfl, by decide +kernel, rfl, by decide +kernel, by decide +kernel⟩
theorem scLaw : FnScope ["_law_script", "_law_source_here", "_law_odd", "_law_turn", "_law_thing", "_law_some", "_law_k"] ["_law_script"] (defScope sLaw) := ⟨rfl, rfl, rfl, by decide +kernel, rfl, by decide +kernel, by decide +kernel⟩
def abc : List Str := ["a", "b", "z", "m", "q"]
def odds : List Str := ["A", "Z", "0", "_", " ", "-", "`", "{", "\n", "\t"]
def seven : List Str := ["a", "b", "c", "d", "node", "zzzzzzzz", "box"]
def okAll (n : Nat) (l : List Str) : Bool := l.all fun y => decide (y.length ≤ n) && PyData.strOk y
theorem okAll_mem {n : Nat} {l : List Str} {x : V} (h : okAll n l = true) (hx : x ∈ l.map V.str) : ∃ y, x = .str y ∧ y.length ≤ n ∧ PyData.strOk y = true := by
  obtain ⟨y, hy, rfl⟩ := List.mem_map.mp hx
  have h1 := List.all_eq_true.mp h y hy
  rw [Bool.and_eq_true, decide_eq_true_eq] at h1
  exact ⟨y, rfl, h1.1, h1.2⟩
def spAlpha : Sp := fun vs H Q _ => ∃ (p : Addr) (m b : Nat) (F : Hp), vs = [.ref p, .int m] ∧ m ≤ 100 ∧ Src H p b ∧ b ≤ 900000 ∧ F p = none ∧ Same F H ∧
  ∀ H' z, Word z → Same F H' → Src H' p (b + m + 4) → Q (.str z) H'
def spSome : Sp := fun vs H Q _ => ∃ (p : Addr) (b : Nat) (F : Hp), vs = [.ref p] ∧ Src H p b ∧ b ≤ 900000 ∧ F p = none ∧ Same F H ∧
  ∀ H' z, Word z → Same F H' → Src H' p (b + 1) → Q (.str z) H'
section
variable {P : Program} {w : World} {K : PySem.W.Frag} {mg : Str → Option Value} {base : Heap}
theorem ok_some {f fP : Addr} {fd fdP : FuncData} (F : Fun K "_law_some_name" "_law_some_name" sSome f fd) (FP : Fun K "_law_pick" "_law_pick" sPick fP fdP) (bP : Binds K fdP ["_law_source_here", "_law_items"] []) (gP : mg "_law_pick" = some (.ref fP))
    (GP : FnOk P w K mg base CX0 2 fP fdP ["_law_source_here", "_law_items"] spPick) : FnOk P w K mg base CX0 3 f fd ["_law_source_here"] spSome := by
  refine F.ok scSome (fun vs H Q E h => ?_) (fun cdv A outer s H vs Q E hr h => ?_)
  · obtain ⟨p, b, G, rfl, _⟩ := h
    rfl
  · obtain ⟨p, b, G, rfl, hS, hB, hG, hs, q⟩ := h
    refine ⟨_, pss_one (ps_ret (pe_call GP hr (by rfl) gP FP.kp bP .nil pass0 (pa_cons (pv 0) (pa_cons (pe_lst (pa_cons pe_str (pa_cons pe_str (pa_cons pe_str (pa_cons pe_str (pa_cons pe_str (pa_cons pe_str (pa_cons pe_str pa_nil)))))))) pa_nil)))), ?_⟩
    refine ⟨_, rfl, (by show 7 ≤ sizeLine; decide), fun l hl => ?_⟩
    refine ⟨p, l, seven.map V.str, b, upd G l (.lst (seven.map V.str)), rfl, upd_same, by decide, by decide, src_new hS hl, by omega, grow_at hG hS hl, grow_up hs, fun H' x hx s1 S1 => ?_⟩
    obtain ⟨y, rfl, h1, h2⟩ := okAll_mem (n := 8) (by decide +kernel) hx
    exact q H' y ⟨by omega, h2⟩ ((grow_same hs hl).trans s1) S1
theorem ok_alpha {f fN fP : Addr} {fd fdN fdP : FuncData} (F : Fun K "_law_alphabet_name" "_law_alphabet_name" sAlpha f fd) (FN : Fun K "_law_next" "_law_next" sNext fN fdN) (bN : Binds K fdN ["_law_source_here", "_law_many"] []) (gN : mg "_law_next" = some (.ref fN))
    (GN : FnOk P w K mg base CX0 1 fN fdN ["_law_source_here", "_law_many"] spNext)
    (FP : Fun K "_law_pick" "_law_pick" sPick fP fdP) (bP : Binds K fdP ["_law_source_here", "_law_items"] []) (gP : mg "_law_pick" = some (.ref fP))
    (GP : FnOk P w K mg base CX0 2 fP fdP ["_law_source_here", "_law_items"] spPick) (ml : mg "len" = none) (mr : mg "range" = none) : FnOk P w K mg base CX0 3 f fd ["_law_source_here", "_law_most"] spAlpha := by
  refine F.ok scAlpha (fun vs H Q E h => ?_) (fun cdv A outer s H vs Q E hr h => ?_)
  · obtain ⟨p, m, b, G, rfl, _⟩ := h
    rfl
  · obtain ⟨p, m, b, G, rfl, hm, hS, hB, hG, hs, q⟩ := h
    have hr1 : Room 1 _ := hr.mono (by decide)
    refine ⟨_, pss_cons (ps_set (i := 2) scAlpha.nd rfl (Or.inl rfl) pe_str)
      (pss_cons (ps_for PassesOwn.never rfl (pi_range1 (by rfl) mr (pa_cons (pe_call GN hr1 (by rfl) gN FN.kp bN .nil pass0 (pa_cons (pv 0) (pa_cons (pe_op op_add (pv 1) pe_int) pa_nil))) pa_nil)) (pg_name (i := 3) scAlpha.nd rfl (Or.inl rfl))
        (pss_one (ps_set (i := 2) scAlpha.nd rfl (Or.inl rfl) (pe_op op_add_str (pv 2) (pe_call GP hr (by rfl) gP FP.kp bP .nil pass0 (pa_cons (pv 0) (pa_cons (pe_lst (pa_cons pe_str (pa_cons pe_str (pa_cons pe_str (pa_cons pe_str (pa_cons pe_str pa_nil)))))) pa_nil)))))))
      (pss_cons (ps_if (pt_cmpR op_eq (pe_call GN hr1 (by rfl) gN FN.kp bN .nil pass0 (pa_cons (pv 0) (pa_cons pe_int pa_nil))) pe_int (nomark _))
        (pss_cons (ps_set (i := 4) scAlpha.nd rfl (Or.inl rfl) (pe_call GN hr1 (by rfl) gN FN.kp bN .nil pass0 (pa_cons (pv 0) (pa_cons (pe_op op_add (pe_callB call_len_str (by rfl) ml PySem.boot_len (pa_cons (pv 2) pa_nil)) pe_int) pa_nil))))
        (pss_one (ps_set (i := 2) scAlpha.nd rfl (Or.inl rfl) (pe_op op_add_str (pe_op op_add_str (pe_slice sl_str (pv 2) po_none (po_some (pv 4)))
          (pe_call GP hr (by rfl) gP FP.kp bP .nil pass0 (pa_cons (pv 0) (pa_cons (pe_lst (pa_cons pe_str (pa_cons pe_str (pa_cons pe_str (pa_cons pe_str (pa_cons pe_str (pa_cons pe_str (pa_cons pe_str (pa_cons pe_str (pa_cons pe_str (pa_cons pe_str pa_nil))))))))))) pa_nil))))
          (pe_slice sl_str (pv 2) (po_some (pv 4)) po_none))))) pss_nil)
      (pss_one (ps_ret (pv 2))))), ?_⟩
    refine ⟨_, rfl, _, rfl, _, _, rfl, rfl, p, _, b, G, rfl, (by omega), (by omega), hS, by omega, hG, hs, fun H1 n n0 n1 s1 S1 => ?_⟩
    refine ⟨n, rfl, (by omega), (by omega), for_range (n := n.toNat) (fun i σ H' => ∃ (z : Str) (t : Option V), σ = [some (.ref p), some (.int m), some (.str z), t, none] ∧ z.length ≤ i ∧ PyData.strOk z = true ∧ Same G H' ∧ Src H' p (b + 1 + i))
      ⟨_, none, rfl, by decide, by decide +kernel, s1, S1⟩ ?_ ?_⟩
    · rintro i σ H2 hi ⟨z, t, rfl, hz, ho, s2, S2⟩
      refine ⟨_, rfl, _, rfl, (by show 5 ≤ sizeLine; decide), fun l hl => ?_⟩
      refine ⟨p, l, abc.map V.str, _, upd G l (.lst (abc.map V.str)), rfl, upd_same, by decide, by decide, src_new S2 hl, by omega, grow_at hG S2 hl, grow_up s2, fun H3 x hx s3 S3 => ?_⟩
      obtain ⟨y, rfl, h1, h2⟩ := okAll_mem (n := 1) (by decide +kernel) hx
      have len : (z ++ y).length = z.length + y.length := PySem.strLen_append z y
      refine ⟨_, _, rfl, rfl, Nat.le_of_lt (small1000 (by omega)), ?_⟩
      exact ⟨_, _, rfl, by omega, strOk_append ho h2, (grow_same s2 hl).trans s3, S3.mono (by omega)⟩
    · rintro σ H2 ⟨z, t, rfl, hz, ho, s2, S2⟩
      have hn : n.toNat ≤ m := by omega
      refine ⟨_, rfl, p, _, _, G, rfl, (by decide), (by decide), S2, by omega, hG, s2, fun H3 k k0 k1 s3 S3 => ?_⟩
      refine ⟨rfl, _, rfl, ?_⟩
      refine ite2 (fun _ => ?_) (fun _ => ?_)
      · refine ⟨_, rfl, _, rfl, z, rfl, Nat.le_of_lt (small1000 (by omega)), _, _, rfl, rfl, p, _, _, G, rfl, (by omega), (by omega), S3, by omega, hG, s3, fun H4 sp sp0 sp1 s4 S4 => ?_⟩
        refine ⟨_, rfl, _, rfl, sp, rfl, z, rfl, Nat.le_of_lt (small1000 (by omega)), _, rfl, (by show 10 ≤ sizeLine; decide), fun l hl => ?_⟩
        refine ⟨p, l, odds.map V.str, _, upd G l (.lst (odds.map V.str)), rfl, upd_same, by decide, by decide, src_new S4 hl, by omega, grow_at hG S4 hl, grow_up s4, fun H5 x hx s5 S5 => ?_⟩
        obtain ⟨y, rfl, h1, h2⟩ := okAll_mem (n := 1) (by decide +kernel) hx
        have c1 := cutS_length z none (some sp)
        have c2 := cutS_length z (some sp) none
        have l1 : (cutS z none (some sp) ++ y).length = (cutS z none (some sp)).length + y.length := PySem.strLen_append _ _
        have l2 : ((cutS z none (some sp) ++ y) ++ cutS z (some sp) none).length = (cutS z none (some sp) ++ y).length + (cutS z (some sp) none).length := PySem.strLen_append _ _
        refine ⟨_, _, rfl, rfl, Nat.le_of_lt (small1000 (by omega)), _, rfl, _, rfl, sp, rfl, z, rfl, Nat.le_of_lt (small1000 (by omega)), _, _, rfl, rfl, Nat.le_of_lt (small1000 (by omega)), _, rfl, ?_⟩
        exact q H5 _ ⟨by omega, strOk_append (strOk_append (strOk_cut ho _ _) h2) (strOk_cut ho _ _)⟩ ((grow_same s4 hl).trans s5) (S5.mono (by omega))
      · exact ⟨_, rfl, q H3 z ⟨by omega, ho⟩ s3 (S3.mono (by omega))⟩
end
end K02

set_option Elab.async false
set_option maxRecDepth 100000
set_option maxHeartbeats 8000000
namespace Nb
open PySem L2
theorem src_at {H : Hp} {p D : Addr} {o : HO} {b : Nat} (S : Src H p b) (n : p ≠ D) : Src (upd H D o) p b := by
  obtain ⟨c, m, r, e, k⟩ := S
  exact ⟨c, m, r, by rw [upd_ne n]; exact e, k⟩
theorem src_fresh {H : Hp} {p D : Addr} {b : Nat} (S : Src H p b) (h : H D = none) : D ≠ p := fun z => by
  obtain ⟨u, e⟩ := S.some
  rw [← z, h] at e
  cases e
/-- tuple + tuple, whichever of the two is empty -/
theorem cat_tup {K : PySem.W.Frag} {H : Hp} {a b : Addr} {xs ys : List V} {Q : VK} (ha : SqT K H a xs) (hb : H b = some (.tup ys)) (hy : ys ≠ []) (hl : xs.length + ys.length ≤ sizeLine)
    (h : ∀ p H', Same H H' → (∀ c, H c ≠ none → H' c = H c) → H' p = some (.tup (xs ++ ys)) → Q (.ref p) H') : rCatA K (.ref a) (.ref b) H Q := by
  refine ⟨a, b, xs, ys, rfl, rfl, ha, SqT.of hb, hl, fun e => ?_, fun _ e => absurd e hy, fun _ _ p hp => ?_⟩
  · subst e
    exact h b H (Same.refl H) (fun _ _ => rfl) hb
  · exact h p _ (same_new hp) (fun c hc => upd_ne (fun z => hc (z ▸ hp))) upd_same
theorem cut_mem {xs : List V} {lo hi : Option Int} {y : V} (h : y ∈ cutV xs lo hi) : y ∈ xs := List.mem_of_mem_drop (List.mem_of_mem_take h)
theorem map_item {K : PySem.W.Frag} {H : Hp} {ys : List Str} (h : ∀ z ∈ ys, Word z) : ∀ y ∈ ys.map V.str, Item K H y := fun y hy => by
  obtain ⟨z, hz, rfl⟩ := List.mem_map.mp hy
  exact (h z hz).item
/-- the law's promise -/
def spLaw (K : PySem.W.Frag) : Sp := fun vs H Q _ => ∃ (a : Addr) (ns : List Int), vs = [.ref a] ∧ SqL K H a (ns.map V.int) ∧ ns.length ≤ 63 ∧ ∀ H', Q (.bl true) H'
end Nb
namespace K02
open PySem L2 Nb
def strs8 : List Str := ["", "Box", "a b", "abcdefghi", "abcdefgh", "z", "name", "self"]
/-- what the law keeps: the odd values, none of them the source -/
def OddAt (K : PySem.W.Frag) (G : Hp) (o : Addr) (xs : List V) : Prop := G o = some (.lst xs) ∧ xs.length = 14 ∧ (∀ x ∈ xs, Known K G x) ∧ ∀ x ∈ xs, Thing K G x
structure Glob (mg : Str → Option Value) : Prop where
  names : NamesTxt mg
  rep : mg "repr" = none
  rng : mg "range" = none
section
variable {P : Program} {w : World} {K : PySem.W.Frag} {mg : Str → Option Value} {base : Heap}
theorem ok_law {f fS fN fA fNm fNH fR fRH fSo : Addr} {fd fdS fdN fdA fdNm fdNH fdR fdRH fdSo : FuncData} (F : Fun K "law" "law" sLaw f fd) (G : Glob mg)
    (FS : Fun K "_law_source" "_law_source" sSource fS fdS) (bS : Binds K fdS ["_law_script", "_law_k"] []) (gS : mg "_law_source" = some (.ref fS)) (GS : FnOk P w K mg base CX0 1 fS fdS ["_law_script", "_law_k"] (spSource K))
    (FN : Fun K "_law_next" "_law_next" sNext fN fdN) (bN : Binds K fdN ["_law_source_here", "_law_many"] []) (gN : mg "_law_next" = some (.ref fN)) (GN : FnOk P w K mg base CX0 1 fN fdN ["_law_source_here", "_law_many"] spNext)
    (FA : Fun K "_law_alphabet_name" "_law_alphabet_name" sAlpha fA fdA) (bA : Binds K fdA ["_law_source_here", "_law_most"] []) (gA : mg "_law_alphabet_name" = some (.ref fA)) (GA : FnOk P w K mg base CX0 3 fA fdA ["_law_source_here", "_law_most"] spAlpha)
    (FSo : Fun K "_law_some_name" "_law_some_name" sSome fSo fdSo) (bSo : Binds K fdSo ["_law_source_here"] []) (gSo : mg "_law_some_name" = some (.ref fSo)) (GSo : FnOk P w K mg base CX0 3 fSo fdSo ["_law_source_here"] spSome)
    (FNm : Fun K "is_name" "is_name" sName fNm fdNm) (bNm : Binds K fdNm ["thing"] []) (gNm : mg "is_name" = some (.ref fNm)) (GNm : FnOk P w K mg base CX0 1 fNm fdNm ["thing"] (spName K))
    (FNH : Fun K "_law_is_name_here" "_law_is_name_here" sNameH fNH fdNH) (bNH : Binds K fdNH ["_law_thing"] []) (gNH : mg "_law_is_name_here" = some (.ref fNH)) (GNH : FnOk P w K mg base CX0 1 fNH fdNH ["_law_thing"] (spName K))
    (FR : Fun K "is_row" "is_row" sRow fR fdR) (bR : Binds K fdR ["thing"] []) (gR : mg "is_row" = some (.ref fR)) (GR : FnOk P w K mg base CX0 4 fR fdR ["thing"] (spOf K rowV))
    (FRH : Fun K "_law_is_row_here" "_law_is_row_here" sRowH fRH fdRH) (bRH : Binds K fdRH ["_law_thing"] []) (gRH : mg "_law_is_row_here" = some (.ref fRH)) (GRH : FnOk P w K mg base CX0 2 fRH fdRH ["_law_thing"] (spOf K rowV)) :
    FnOk P w K mg base CX0 5 f fd ["_law_script"] (spLaw K) := by
  refine F.ok scLaw (fun vs H Q E h => ?_) (fun cdv A outer s H vs Q E hr h => ?_)
  · obtain ⟨a, ns, rfl, _⟩ := h
    rfl
  · obtain ⟨a, ns, rfl, hS, hlen, q⟩ := h
    have hr1 : Room 1 _ := hr.mono (by decide)
    have hr2 : Room 2 _ := hr.mono (by decide)
    have hr3 : Room 3 _ := hr.mono (by decide)
    refine ⟨_, pss_cons (ps_set (i := 1) scLaw.nd rfl (Or.inr rfl) (pe_call GS hr1 (by rfl) gS FS.kp bS .nil pass0 (pa_cons (pv 0) (pa_cons pe_int pa_nil))))
        (pss_cons (ps_set (i := 2) scLaw.nd rfl (Or.inl rfl) (pe_lst (pa_cons pe_non (pa_cons pe_int (pa_cons pe_bl (pa_cons (pe_tup (pa_cons pe_str pa_nil)) (pa_cons (pe_lst (pa_cons pe_str pa_nil)) (pa_cons pe_dnewK (pa_cons pe_str (pa_cons pe_str (pa_cons pe_str (pa_cons pe_str (pa_cons pe_str (pa_cons pe_str (pa_cons pe_str (pa_cons pe_str pa_nil))))))))))))))))
        (pss_cons (ps_for PassesOwn.never rfl (pi_list (pe_op op_cat (pv 2) (pe_lc (own := [("_law_turn", 3)]) (g := gName 3) (tt := tYes) rfl scLaw.nd (pi_range1 (by rfl) G.rng (pa_cons pe_int pa_nil)) (blkOk_by (N := ["_law_script", "_law_source_here", "_law_odd", "_law_turn", "_law_thing", "_law_some", "_law_k"]) (sc := defScope sLaw) (by decide +kernel)) (fun _ _ _ _ _ => (pg_name (i := 3) scLaw.nd rfl (Or.inl rfl))) (fun _ _ _ _ _ => pts_nil) (fun _ _ _ _ _ => (pe_call GA hr3 (by rfl) gA FA.kp bA .nil pass0 (pa_cons (pv 1) (pa_cons pe_int pa_nil))))))) (pg_name (i := 4) scLaw.nd rfl (Or.inl rfl)) (pss_one (ps_if (pt_cmpR op_ne (pe_callB cr_reprB (by rfl) G.rep (by decide +kernel) (pa_cons (pe_call GNm hr1 (by rfl) gNm FNm.kp bNm .nil pass0 (pa_cons (pv 4) pa_nil)) pa_nil)) (pe_callB cr_reprB (by rfl) G.rep (by decide +kernel) (pa_cons (pe_call GNH hr1 (by rfl) gNH FNH.kp bNH .nil pass0 (pa_cons (pv 4) pa_nil)) pa_nil)) (nomark _)) (pss_one (ps_ret pe_bl)) pss_nil)))
        (pss_cons (ps_for PassesOwn.never rfl (pi_range1 (by rfl) G.rng (pa_cons pe_int pa_nil)) (pg_name (i := 3) scLaw.nd rfl (Or.inl rfl)) (pss_cons (ps_setLc (i := 5) (own := [("_law_k", 6)]) (g := gName 6) (tt := tYes) rfl scLaw.nd rfl rfl (sw_true rfl rfl rfl (by decide +kernel)) (pi_range1 (by rfl) G.rng (pa_cons (pe_call GN hr1 (by rfl) gN FN.kp bN .nil pass0 (pa_cons (pv 1) (pa_cons pe_int pa_nil))) pa_nil)) (blkOk_by (N := ["_law_script", "_law_source_here", "_law_odd", "_law_turn", "_law_thing", "_law_some", "_law_k"]) (sc := defScope sLaw) (by decide +kernel)) (fun _ _ _ _ _ => (pg_name (i := 6) scLaw.nd rfl (Or.inl rfl))) (fun _ _ _ _ _ => pts_nil) (fun _ _ _ _ _ => (pe_call GA hr3 (by rfl) gA FA.kp bA .nil pass0 (pa_cons (pv 1) (pa_cons pe_int pa_nil)))))
        (pss_cons (ps_set (i := 5) scLaw.nd rfl (Or.inl rfl) (pe_op op_cat (pv 5) (pe_lc (own := [("_law_k", 6)]) (g := gName 6) (tt := tYes) rfl scLaw.nd (pi_range1 (by rfl) G.rng (pa_cons (pe_call GN hr1 (by rfl) gN FN.kp bN .nil pass0 (pa_cons (pv 1) (pa_cons pe_int pa_nil))) pa_nil)) (blkOk_by (N := ["_law_script", "_law_source_here", "_law_odd", "_law_turn", "_law_thing", "_law_some", "_law_k"]) (sc := defScope sLaw) (by decide +kernel)) (fun _ _ _ _ _ => (pg_name (i := 6) scLaw.nd rfl (Or.inl rfl))) (fun _ _ _ _ _ => pts_nil) (fun _ _ _ _ _ => (pe_call GSo hr3 (by rfl) gSo FSo.kp bSo .nil pass0 (pa_cons (pv 1) pa_nil))))))
        (pss_one (ps_for PassesOwn.never rfl (pi_tup (pe_tup (pa_cons (pe_callTy call_tuple_of (by rfl) G.names.tup (by decide +kernel) (pa_cons (pv 5) pa_nil)) (pa_cons (pv 5) (pa_cons (pe_callTy call_tuple_of (by rfl) G.names.tup (by decide +kernel) (pa_cons (pe_op op_cat (pv 5) (pe_slice sl_list (pv 5) po_none (po_some pe_int))) pa_nil)) (pa_cons (pe_op op_catA (pe_callTy call_tuple_of (by rfl) G.names.tup (by decide +kernel) (pa_cons (pv 5) pa_nil)) (pe_tup (pa_cons pe_non pa_nil))) (pa_cons (pe_callTy call_tuple_of (by rfl) G.names.tup (by decide +kernel) (pa_cons (pe_slice sl_list (pv 5) po_none (po_some pe_int)) pa_nil)) pa_nil))))))) (pg_name (i := 4) scLaw.nd rfl (Or.inl rfl)) (pss_one (ps_if (pt_cmpR op_ne (pe_callB cr_reprB (by rfl) G.rep (by decide +kernel) (pa_cons (pe_call GR hr (by rfl) gR FR.kp bR .nil pass0 (pa_cons (pv 4) pa_nil)) pa_nil)) (pe_callB cr_reprB (by rfl) G.rep (by decide +kernel) (pa_cons (pe_call GRH hr2 (by rfl) gRH FRH.kp bRH .nil pass0 (pa_cons (pv 4) pa_nil)) pa_nil)) (nomark _)) (pss_one (ps_ret pe_bl)) pss_nil)))))))
        (pss_cons (ps_for PassesOwn.never rfl (pi_list (pe_op op_cat (pv 2) (pe_lst (pa_cons (pe_tup pa_nil) (pa_cons (pe_tup (pa_cons pe_str (pa_cons pe_str (pa_cons pe_str (pa_cons pe_str pa_nil))))) (pa_cons (pe_tup (pa_cons pe_str (pa_cons pe_str (pa_cons pe_str (pa_cons pe_str (pa_cons pe_str pa_nil)))))) (pa_cons (pe_tup (pa_cons pe_str (pa_cons pe_str pa_nil))) (pa_cons (pe_tup (pa_cons (pe_tup (pa_cons pe_str pa_nil)) pa_nil)) (pa_cons (pe_tup (pa_cons (pe_lst (pa_cons pe_str pa_nil)) pa_nil)) pa_nil))))))))) (pg_name (i := 4) scLaw.nd rfl (Or.inl rfl)) (pss_one (ps_if (pt_cmpR op_ne (pe_callB cr_reprB (by rfl) G.rep (by decide +kernel) (pa_cons (pe_call GR hr (by rfl) gR FR.kp bR .nil pass0 (pa_cons (pv 4) pa_nil)) pa_nil)) (pe_callB cr_reprB (by rfl) G.rep (by decide +kernel) (pa_cons (pe_call GRH hr2 (by rfl) gRH FRH.kp bRH .nil pass0 (pa_cons (pv 4) pa_nil)) pa_nil)) (nomark _)) (pss_one (ps_ret pe_bl)) pss_nil)))
        (pss_one (ps_ret (pe_and (pe_call GR hr (by rfl) gR FR.kp bR .nil pass0 (pa_cons (pe_tup pa_nil) pa_nil)) (pe_and (pe_call GR hr (by rfl) gR FR.kp bR .nil pass0 (pa_cons (pe_tup (pa_cons pe_str (pa_cons pe_str (pa_cons pe_str (pa_cons pe_str pa_nil))))) pa_nil)) (pe_one (pe_not (pe_call GR hr (by rfl) gR FR.kp bR .nil pass0 (pa_cons (pe_tup (pa_cons pe_str (pa_cons pe_str (pa_cons pe_str (pa_cons pe_str (pa_cons pe_str pa_nil)))))) pa_nil)))))))))))), ?_⟩
    refine ⟨_, rfl, a, ns, 0, rfl, hS, hlen, by decide, fun H1 p s1 np S1 => ?_⟩
    -- the odd values
    refine ⟨(by show 1 ≤ sizeLine; decide), fun t ht => ?_⟩
    refine ⟨(by show 1 ≤ sizeLine; decide), fun l hl => ?_⟩
    intro d hd
    refine ⟨(by show 14 ≤ sizeLine; decide), fun o ho => ?_⟩
    obtain ⟨H2, eH2⟩ : ∃ H2, H2 = upd (upd (upd H1 t (.tup [.str "a"])) l (.lst [.str "a"])) d (.dK []) := ⟨_, rfl⟩
    have S2 : Src H2 p 0 := by rw [eH2]; exact src_new (src_new (src_new S1 ht) hl) hd
    have ho2 : H2 o = none := by rw [eH2]; exact ho
    obtain ⟨H3, eH3⟩ : ∃ H3, H3 = upd H2 o (.lst ([.non, .int 5, .bl true, .ref t, .ref l, .ref d] ++ strs8.map V.str)) := ⟨_, rfl⟩
    have S3 : Src H3 p 0 := by rw [eH3]; exact src_new S2 ho2
    have ntl : t ≠ l := ne_of_none upd_same hl
    have et1 : (upd (upd H1 t (.tup [.str "a"])) l (.lst [.str "a"])) t = some (.tup [.str "a"]) := by rw [upd_ne ntl]; exact upd_same
    have ntd : t ≠ d := ne_of_none et1 hd
    have nld : l ≠ d := ne_of_none upd_same hd
    have et2 : H2 t = some (.tup [.str "a"]) := by rw [eH2, upd_ne ntd]; exact et1
    have el2 : H2 l = some (.lst [.str "a"]) := by rw [eH2, upd_ne nld]; exact upd_same
    have ed2 : H2 d = some (.dK []) := by rw [eH2]; exact upd_same
    have up3 : Same H2 H3 := by rw [eH3]; exact same_new ho2
    have et3 := up3 _ _ et2
    have el3 := up3 _ _ el2
    have ed3 := up3 _ _ ed2
    have eo3 : H3 o = some (.lst ([.non, .int 5, .bl true, .ref t, .ref l, .ref d] ++ strs8.map V.str)) := by rw [eH3]; exact upd_same
    have no3 : o ≠ p := fun z => by
      obtain ⟨u, e⟩ := S2.some
      rw [← z, ho2] at e
      cases e
    have nl3 : l ≠ p := fun z => by
      obtain ⟨c, m, r, e, _⟩ := S3
      rw [← z, el3] at e
      cases e
    have nt3 : t ≠ p := src_ne S3 et3 (fun xs z => by cases z)
    have nd3 : d ≠ p := src_ne S3 ed3 (fun xs z => by cases z)
    obtain ⟨odd, eodd⟩ : ∃ odd : List V, odd = [.non, .int 5, .bl true, .ref t, .ref l, .ref d] ++ strs8.map V.str := ⟨_, rfl⟩
    rw [← eodd] at eo3
    obtain ⟨G0, eG0⟩ : ∃ G0, G0 = del H3 p := ⟨_, rfl⟩
    have G0p : G0 p = none := by rw [eG0]; exact del_at
    have G0s : Same G0 H3 := by rw [eG0]; exact del_same
    have G0o : G0 o = some (.lst odd) := by rw [eG0, del_ne no3]; exact eo3
    have G0l : G0 l = some (.lst [.str "a"]) := by rw [eG0, del_ne nl3]; exact el3
    have G0t : G0 t = some (.tup [.str "a"]) := by rw [eG0, del_ne nt3]; exact et3
    have G0d : G0 d = some (.dK []) := by rw [eG0, del_ne nd3]; exact ed3
    have lodd : odd.length = 14 := by rw [eodd]; rfl
    have word8 : ∀ z ∈ strs8, Word z := fun z hz => by
      have h1 : strs8.all (fun z => decide (z.length ≤ 1000) && PyData.strOk z) = true := by decide +kernel
      have h2 := List.all_eq_true.mp h1 z hz
      rw [Bool.and_eq_true, decide_eq_true_eq] at h2
      exact h2
    have wordA : Word ("a" : Str) := ⟨by decide +kernel, by decide +kernel⟩
    have odds : ∀ x ∈ odd, Known K G0 x ∧ Thing K G0 x := fun x hx => by
      rw [eodd] at hx
      rcases List.mem_append.mp hx with hx | hx
      · simp only [List.mem_cons, List.not_mem_nil, or_false] at hx
        rcases hx with rfl | rfl | rfl | rfl | rfl | rfl
        · exact ⟨known_non, thing_flat (fun a => by intro e; cases e) (.base .non) (by decide +kernel)⟩
        · exact ⟨known_int 5, thing_flat (fun a => by intro e; cases e) (.base (.int 5)) (by decide +kernel)⟩
        · exact ⟨known_bl true, thing_flat (fun a => by intro e; cases e) (.base (.bl true)) (by decide +kernel)⟩
        · exact ⟨known_tup G0t, .inl ⟨t, _, rfl, G0t, by decide, fun y hy => by
            rw [List.mem_singleton.mp hy]
            exact wordA.item⟩⟩
        · exact ⟨known_lst G0l, thing_lst G0l⟩
        · exact ⟨known_dct G0d, thing_dct G0d⟩
      · obtain ⟨z, hz, rfl⟩ := List.mem_map.mp hx
        exact ⟨known_str (word8 z hz).1 (word8 z hz).2, thing_str z⟩
    -- the first loop: odd + twenty texts
    clear eG0
    subst eH3
    subst eH2
    refine ⟨_, rfl, 20, rfl, by decide, by decide, fun D hD => ?_⟩
    have hD0 : G0 D = none := G0s.free hD
    have nDp : D ≠ p := src_fresh S3 hD
    refine lc_range (lo := 0) (n := 20) (fun i H' => Same G0 H' ∧ Src H' p (14 * i) ∧ ∃ zs : List Str, H' D = some (.lst (zs.map V.str)) ∧ zs.length = i ∧ ∀ z ∈ zs, Word z)
      ⟨G0s.trans (same_new hD), (src_new S3 hD).mono (by decide), [], upd_same, rfl, fun z hz => by cases hz⟩ ?_ ?_
    · rintro i H' hi ⟨s2, S2, zs, eD, el, wz⟩
      refine ⟨rfl, _, rfl, p, 10, _, del H' p, rfl, by decide, S2, by omega, del_at, del_same, fun H4 z hz s4 S4 => ?_⟩
      refine ⟨_, del_get s4 nDp eD, ?_, same_at ((same_del s2 G0p).trans s4) hD0, (src_at S4 nDp.symm).mono (by omega), zs ++ [z], ?_, by simp [el], fun y hy => ?_⟩
      · rw [List.length_map]
        exact small1000 (by omega)
      · rw [upd_same]
        simp
      · rcases List.mem_append.mp hy with hy | hy
        · exact wz y hy
        · rw [List.mem_singleton.mp hy]
          exact hz
    rintro H4 ⟨s4, S4, zs, eD, el, wz⟩
    refine ⟨o, D, odd, _, rfl, rfl, s4 _ _ G0o, eD, (by rw [List.length_map, lodd, el]; decide), fun c hc => ?_⟩
    have hc0 : G0 c = none := s4.free hc
    have s5 : Same H4 (upd H4 c (.lst (odd ++ zs.map V.str))) := same_new hc
    refine ⟨c, rfl, ⟨_, SqL.of upd_same⟩, for_list (K := K) (a := c) (xs := odd ++ zs.map V.str) (fun i σ H' => ∃ v3 v4 v5 v6, σ = [some (.ref a), some (.ref p), some (.ref o), v3, v4, v5, v6] ∧ Same (upd H4 c (.lst (odd ++ zs.map V.str))) H')
      ⟨_, _, _, _, rfl, Same.refl _⟩ (fun i σ H' _ ⟨_, _, _, _, _, s6⟩ => s6.seq (SqL.of upd_same)) ?_ ?_⟩
    · rintro i x σ H' hi ⟨v3, v4, v5, v6, rfl, s6⟩
      have hx : Known K G0 x := by
        rcases List.mem_append.mp (List.mem_of_getElem? hi) with hx | hx
        · exact (odds x hx).1
        · obtain ⟨z, hz, rfl⟩ := List.mem_map.mp hx
          exact known_str (wz z hz).1 (wz z hz).2
      have kx := known_same (s4.trans (s5.trans s6)) hx
      refine ⟨_, rfl, x, rfl, kx, fun H7 s7 => ⟨_, rfl, _, rfl, x, rfl, known_same s7 kx, fun H8 s8 => ⟨_, rfl, rfl, _, rfl, ?_⟩⟩⟩
      refine iteNS rfl ?_
      exact ⟨v3, _, v5, v6, rfl, (s6.trans s7).trans s8⟩
    rintro σ H5 ⟨v3, v4, v5, v6, rfl, s6⟩
    have t5 : Same G0 H5 := s4.trans (s5.trans s6)
    have S5 : Src H5 p 280 := (S4.same (s5.trans s6)).mono (by decide)
    clear s6 s5 hc0 hc c eD el wz S4 s4 zs H4 hD0 nDp hD D
    refine ⟨20, rfl, by decide, by decide, for_range (lo := 0) (n := 20) (fun i σ H' => ∃ v3 v4 v5 v6, σ = [some (.ref a), some (.ref p), some (.ref o), v3, v4, v5, v6] ∧ Same G0 H' ∧ Src H' p (280 + 20 * i))
      ⟨_, _, _, _, rfl, t5, S5⟩ ?_ ?_⟩
    · rintro i σ H6 hi ⟨w3, w4, w5, w6, rfl, t6, S6⟩
      -- some = [texts]
      refine ⟨_, rfl, p, 3, _, del H6 p, rfl, by decide, by decide, S6, by omega, del_at, del_same, fun H7 n n0 n3 s7 S7 => ?_⟩
      have t7 : Same G0 H7 := (same_del t6 G0p).trans s7
      refine ⟨n, rfl, (by omega), (by omega), fun D hD => ?_⟩
      have nDp : D ≠ p := src_fresh S7 hD
      have hD0 : G0 D = none := t7.free hD
      refine lc_range (lo := 0) (n := n.toNat) (fun j H' => Same G0 H' ∧ Src H' p (280 + 20 * i + 1 + 7 * j) ∧ ∃ zs : List Str, H' D = some (.lst (zs.map V.str)) ∧ zs.length = j ∧ ∀ z ∈ zs, Word z)
        ⟨t7.trans (same_new hD), (src_new S7 hD), [], upd_same, rfl, fun z hz => by cases hz⟩ ?_ ?_
      · rintro j H' hj ⟨s2, S2, zs, eD, el, wz⟩
        refine ⟨rfl, _, rfl, p, 3, _, del H' p, rfl, by decide, S2, by omega, del_at, del_same, fun H4 z hz s4 S4 => ?_⟩
        refine ⟨_, del_get s4 nDp eD, ?_, same_at ((same_del s2 G0p).trans s4) hD0, (src_at S4 nDp.symm).mono (by omega), zs ++ [z], ?_, by simp [el], fun y hy => ?_⟩
        · rw [List.length_map]
          exact small1000 (by omega)
        · rw [upd_same]
          simp
        · rcases List.mem_append.mp hy with hy | hy
          · exact wz y hy
          · rw [List.mem_singleton.mp hy]
            exact hz
      rintro H8 ⟨t8, S8, zs, eD, elz, wz⟩
      -- some = some + [names]
      refine ⟨_, rfl, _, rfl, p, 4, _, del H8 p, rfl, by decide, by decide, S8, by omega, del_at, del_same, fun H9 m m0 m4 s9 S9 => ?_⟩
      have t9 : Same G0 H9 := (same_del t8 G0p).trans s9
      have eD9 : H9 D = some (.lst (zs.map V.str)) := del_get s9 nDp eD
      refine ⟨m, rfl, (by omega), (by omega), fun E hE => ?_⟩
      have nEp : E ≠ p := src_fresh S9 hE
      have hE0 : G0 E = none := t9.free hE
      have nDE : D ≠ E := ne_of_none eD9 hE
      refine lc_range (lo := 0) (n := m.toNat) (fun j H' => Same G0 H' ∧ H' D = some (.lst (zs.map V.str)) ∧ Src H' p (280 + 20 * i + 1 + 7 * n.toNat + 1 + j) ∧ ∃ ys : List Str, H' E = some (.lst (ys.map V.str)) ∧ ys.length = j ∧ ∀ z ∈ ys, Word z)
        ⟨t9.trans (same_new hE), by rw [upd_ne nDE]; exact eD9, (src_new S9 hE).mono (by omega), [], upd_same, rfl, fun z hz => by cases hz⟩ ?_ ?_
      · rintro j H' hj ⟨s2, e2, S2, ys, eE, el, wy⟩
        refine ⟨rfl, _, rfl, p, _, del H' p, rfl, S2, by omega, del_at, del_same, fun H4 z hz s4 S4 => ?_⟩
        refine ⟨_, del_get s4 nEp eE, ?_, same_at ((same_del s2 G0p).trans s4) hE0, by rw [upd_ne nDE]; exact del_get s4 nDp e2, (src_at S4 nEp.symm).mono (by omega), ys ++ [z], ?_, by simp [el], fun y hy => ?_⟩
        · rw [List.length_map]
          exact small1000 (by omega)
        · rw [upd_same]
          simp
        · rcases List.mem_append.mp hy with hy | hy
          · exact wy y hy
          · rw [List.mem_singleton.mp hy]
            exact hz
      rintro H10 ⟨t10, e10, S10, ys, eE, ely, wy⟩
      have hzl : zs.length ≤ 3 := by omega
      have hyl : ys.length ≤ 4 := by omega
      refine ⟨D, E, _, _, rfl, rfl, e10, eE, (by rw [List.length_map, List.length_map]; exact Nat.le_of_lt (small1000 (by omega))), fun q1 hq1 => ?_⟩
      obtain ⟨us, eus⟩ : ∃ us : List Str, us = zs ++ ys := ⟨_, rfl⟩
      have lus : us.length ≤ 7 := by rw [eus, List.length_append]; omega
      have wus : ∀ z ∈ us, Word z := fun z hz => by
        rw [eus] at hz
        rcases List.mem_append.mp hz with hz | hz
        · exact wz z hz
        · exact wy z hz
      have mus : zs.map V.str ++ ys.map V.str = us.map V.str := by rw [eus, List.map_append]
      have S11 : Src (upd H10 q1 (.lst (zs.map V.str ++ ys.map V.str))) p (280 + 20 * (i + 1)) := (src_new S10 hq1).mono (by omega)
      have t11 : Same G0 (upd H10 q1 (.lst (zs.map V.str ++ ys.map V.str))) := t10.trans (same_new hq1)
      have q11 : (upd H10 q1 (.lst (zs.map V.str ++ ys.map V.str))) q1 = some (.lst (us.map V.str)) := by rw [← mus]; exact upd_same
      generalize (upd H10 q1 (.lst (zs.map V.str ++ ys.map V.str))) = H11 at S11 t11 q11 ⊢
      clear mus hq1 eus
      have small : ∀ n, n ≤ 20 → n ≤ sizeLine := fun n h => Nat.le_of_lt (small1000 (by omega))
      have item : ∀ y ∈ us.map V.str, Item K G0 y := map_item wus
      -- the five things
      refine ⟨_, rfl, q1, _, rfl, .inl ⟨SqL.of q11, fun r1 hr1 => ?_⟩⟩
      have q12 : (upd H11 r1 (.tup (us.map V.str))) q1 = some (.lst (us.map V.str)) := same_new hr1 _ _ q11
      refine ⟨_, rfl, _, rfl, _, rfl, 1, rfl, q1, _, rfl, SqL.of q12, fun c1 hc1 => ?_⟩
      have q13 := same_new (o := HO.lst (cutV (us.map V.str) none (some 1))) hc1 _ _ q12
      have cl : (cutV (us.map V.str) none (some 1)).length ≤ 7 := Nat.le_trans (cutV_length _ _ _) (by rw [List.length_map]; exact lus)
      refine ⟨q1, c1, _, _, rfl, rfl, q13, upd_same, small _ (by rw [List.length_map]; omega), fun e1 he1 => ?_⟩
      refine ⟨e1, _, rfl, .inl ⟨SqL.of upd_same, fun r3 hr3 => ?_⟩⟩
      have sA : Same H11 (upd (upd (upd (upd H11 r1 (.tup (us.map V.str))) c1 (.lst (cutV (us.map V.str) none (some 1)))) e1 (.lst (us.map V.str ++ cutV (us.map V.str) none (some 1)))) r3 (.tup (us.map V.str ++ cutV (us.map V.str) none (some 1)))) :=
        ((same_new hr1).trans (same_new hc1)).trans ((same_new he1).trans (same_new hr3))
      have rA := ((same_new hc1).trans ((same_new he1).trans (same_new (o := HO.tup (us.map V.str ++ cutV (us.map V.str) none (some 1))) hr3))) _ _ (upd_same (o := HO.tup (us.map V.str)))
      have r3A : (upd (upd (upd (upd H11 r1 (.tup (us.map V.str))) c1 (.lst (cutV (us.map V.str) none (some 1)))) e1 (.lst (us.map V.str ++ cutV (us.map V.str) none (some 1)))) r3 (.tup (us.map V.str ++ cutV (us.map V.str) none (some 1)))) r3 = some (.tup (us.map V.str ++ cutV (us.map V.str) none (some 1))) := upd_same
      generalize (upd (upd (upd (upd H11 r1 (.tup (us.map V.str))) c1 (.lst (cutV (us.map V.str) none (some 1)))) e1 (.lst (us.map V.str ++ cutV (us.map V.str) none (some 1)))) r3 (.tup (us.map V.str ++ cutV (us.map V.str) none (some 1)))) = Ha at sA rA r3A ⊢
      clear q12 q13 hr1 hc1 he1 hr3
      refine ⟨_, rfl, q1, _, rfl, .inl ⟨SqL.of (sA _ _ q11), fun r4 hr4 => ?_⟩⟩
      refine ⟨(by show 1 ≤ sizeLine; decide), fun u hu => ?_⟩
      refine cat_tup (SqT.of (same_new hu _ _ upd_same)) upd_same (by intro z; cases z) (small _ (by rw [List.length_map]; show us.length + 1 ≤ 20; omega)) (fun x4 Hb sB _ eB => ?_)
      have sAB : Same Ha Hb := ((same_new hr4).trans (same_new hu)).trans sB
      clear sB hu hr4
      refine ⟨_, rfl, 1, rfl, q1, _, rfl, SqL.of (sAB _ _ (sA _ _ q11)), fun c5 hc5 => ?_⟩
      refine ⟨c5, _, rfl, .inl ⟨SqL.of upd_same, fun r5 hr5 => ?_⟩⟩
      refine ⟨(by show 5 ≤ sizeLine; decide), fun T hT => ?_⟩
      have sBC := (same_new hc5).trans ((same_new hr5).trans (same_new (o := HO.tup [.ref r1, .ref q1, .ref r3, .ref x4, .ref r5]) hT))
      have r5C := (same_new (o := HO.tup [.ref r1, .ref q1, .ref r3, .ref x4, .ref r5]) hT) _ _ (upd_same (o := HO.tup (cutV (us.map V.str) none (some 1))))
      have eTC : (upd (upd (upd Hb c5 (.lst (cutV (us.map V.str) none (some 1)))) r5 (.tup (cutV (us.map V.str) none (some 1)))) T (.tup [.ref r1, .ref q1, .ref r3, .ref x4, .ref r5])) T = some (.tup [.ref r1, .ref q1, .ref r3, .ref x4, .ref r5]) := upd_same
      generalize (upd (upd (upd Hb c5 (.lst (cutV (us.map V.str) none (some 1)))) r5 (.tup (cutV (us.map V.str) none (some 1)))) T (.tup [.ref r1, .ref q1, .ref r3, .ref x4, .ref r5])) = Hc at sBC r5C eTC ⊢
      have sC : Same H11 Hc := sA.trans (sAB.trans sBC)
      have tC : Same G0 Hc := t11.trans sC
      have things : ∀ x ∈ [V.ref r1, .ref q1, .ref r3, .ref x4, .ref r5], Thing K Hc x := fun x hx => by
        simp only [List.mem_cons, List.not_mem_nil, or_false] at hx
        rcases hx with rfl | rfl | rfl | rfl | rfl
        · exact .inl ⟨_, _, rfl, sBC _ _ (sAB _ _ rA), by rw [List.length_map]; omega, fun y hy => item_same tC (item y hy)⟩
        · exact thing_lst (sC _ _ q11)
        · refine .inl ⟨_, _, rfl, sBC _ _ (sAB _ _ r3A), by rw [List.length_append, List.length_map]; omega, fun y hy => item_same tC ?_⟩
          rcases List.mem_append.mp hy with hy | hy
          · exact item y hy
          · exact item y (cut_mem hy)
        · refine .inl ⟨_, _, rfl, sBC _ _ eB, by rw [List.length_append, List.length_map]; show us.length + 1 ≤ 1000; omega, fun y hy => item_same tC ?_⟩
          rcases List.mem_append.mp hy with hy | hy
          · exact item y hy
          · rw [List.mem_singleton.mp hy]
            exact item_non
        · exact .inl ⟨_, _, rfl, r5C, by omega, fun y hy => item_same tC (item y (cut_mem hy))⟩
      refine ⟨T, rfl, ⟨_, SqT.of eTC⟩, for_tup (K := K) (a := T) (xs := [.ref r1, .ref q1, .ref r3, .ref x4, .ref r5]) (fun j σ H' => ∃ v3 v4 v5 v6, σ = [some (.ref a), some (.ref p), some (.ref o), v3, v4, v5, v6] ∧ Same Hc H')
        ⟨_, _, _, _, rfl, Same.refl _⟩ (fun j σ H' _ ⟨_, _, _, _, _, s6⟩ => SqT.of (s6 _ _ eTC)) ?_ ?_⟩
      · rintro j x σ H' hj ⟨v3, v4, v5, v6, rfl, s6⟩
        have kx := thing_same s6 (things x (List.mem_of_getElem? hj))
        refine ⟨_, rfl, x, rfl, kx, fun H7 s7 => ⟨_, rfl, _, rfl, x, rfl, thing_same s7 kx, fun H8 s8 => ⟨_, rfl, rfl, _, rfl, ?_⟩⟩⟩
        refine iteNS (by rw [thing_row s7 kx]) ?_
        exact ⟨v3, _, v5, v6, rfl, (s6.trans s7).trans s8⟩
      · rintro σ H' ⟨v3, v4, v5, v6, rfl, s6⟩
        exact ⟨v3, v4, v5, v6, rfl, tC.trans s6, S11.same (sC.trans s6)⟩
    · rintro σ H6 ⟨v3, v4, v5, v6, rfl, t6, S6⟩
      clear S5 t5
      -- the last loop: odd + six tuples
      refine ⟨_, rfl, (by show 0 ≤ sizeLine; decide), fun u0 hu0 => ?_⟩
      refine ⟨(by show 4 ≤ sizeLine; decide), fun u1 hu1 => ?_⟩
      refine ⟨(by show 5 ≤ sizeLine; decide), fun u2 hu2 => ?_⟩
      refine ⟨(by show 2 ≤ sizeLine; decide), fun u3 hu3 => ?_⟩
      refine ⟨(by show 1 ≤ sizeLine; decide), fun i1 hi1 => ?_⟩
      refine ⟨(by show 1 ≤ sizeLine; decide), fun u4 hu4 => ?_⟩
      refine ⟨(by show 1 ≤ sizeLine; decide), fun l1 hl1 => ?_⟩
      refine ⟨(by show 1 ≤ sizeLine; decide), fun u5 hu5 => ?_⟩
      refine ⟨(by show 6 ≤ sizeLine; decide), fun L hL => ?_⟩
      have b9 := same_new (o := HO.lst [.ref u0, .ref u1, .ref u2, .ref u3, .ref u4, .ref u5]) hL
      have b8 := (same_new hu5).trans b9
      have b7 := (same_new hl1).trans b8
      have b6 := (same_new hu4).trans b7
      have b5 := (same_new hi1).trans b6
      have b4 := (same_new hu3).trans b5
      have b3 := (same_new hu2).trans b4
      have b2 := (same_new hu1).trans b3
      have b1 := (same_new hu0).trans b2
      have f0 := b2 _ _ (upd_same (o := HO.tup []))
      have f1 := b3 _ _ (upd_same (o := HO.tup [.str "a", .str "b", .str "c", .str "d"]))
      have f2 := b4 _ _ (upd_same (o := HO.tup [.str "a", .str "b", .str "c", .str "d", .str "e"]))
      have f3 := b5 _ _ (upd_same (o := HO.tup [.str "a", .str "a"]))
      have f4 := b6 _ _ (upd_same (o := HO.tup [.str "a"]))
      have f5 := b7 _ _ (upd_same (o := HO.tup [.ref i1]))
      have f6 := b8 _ _ (upd_same (o := HO.lst [.str "a"]))
      have f7 := b9 _ _ (upd_same (o := HO.tup [.ref l1]))
      have t7 := t6.trans b1
      refine ⟨o, L, odd, _, rfl, rfl, t7 _ _ G0o, upd_same, (by rw [lodd]; show 14 + 6 ≤ sizeLine; decide), fun c hc => ?_⟩
      have s5 := same_new (o := HO.lst (odd ++ [.ref u0, .ref u1, .ref u2, .ref u3, .ref u4, .ref u5])) hc
      have wd : ∀ z ∈ (["a", "b", "c", "d", "e"] : List Str), Word z := fun z hz => by
        have h1 : (["a", "b", "c", "d", "e"] : List Str).all (fun z => decide (z.length ≤ 1000) && PyData.strOk z) = true := by decide +kernel
        have h2 := List.all_eq_true.mp h1 z hz
        rw [Bool.and_eq_true, decide_eq_true_eq] at h2
        exact h2
      refine ⟨c, rfl, ⟨_, SqL.of upd_same⟩, for_list (K := K) (a := c) (xs := odd ++ [.ref u0, .ref u1, .ref u2, .ref u3, .ref u4, .ref u5]) (fun i σ H' => ∃ v3 v4 v5 v6, σ = [some (.ref a), some (.ref p), some (.ref o), v3, v4, v5, v6] ∧ Same _ H')
        ⟨_, _, _, _, rfl, Same.refl _⟩ (fun i σ H' _ ⟨_, _, _, _, _, s6⟩ => s6.seq (SqL.of upd_same)) ?_ ?_⟩
      · rintro i x σ H' hi ⟨v3, v4, v5, v6, rfl, s6⟩
        have s56 := s5.trans s6
        have hx : Thing K H' x := by
          rcases List.mem_append.mp (List.mem_of_getElem? hi) with hx | hx
          · exact thing_same (t7.trans s56) (odds x hx).2
          · simp only [List.mem_cons, List.not_mem_nil, or_false] at hx
            rcases hx with rfl | rfl | rfl | rfl | rfl | rfl
            · exact .inl ⟨_, _, rfl, s56 _ _ f0, by decide, fun y hy => by cases hy⟩
            · exact .inl ⟨_, _, rfl, s56 _ _ f1, by decide, map_item (ys := ["a", "b", "c", "d"]) fun z hz => wd z (by simp only [List.mem_cons, List.not_mem_nil, or_false] at hz ⊢; rcases hz with z | z | z | z <;> simp [z])⟩
            · exact .inl ⟨_, _, rfl, s56 _ _ f2, by decide, map_item (ys := ["a", "b", "c", "d", "e"]) wd⟩
            · exact .inl ⟨_, _, rfl, s56 _ _ f3, by decide, map_item (ys := ["a", "a"]) fun z hz => wd z (by simp only [List.mem_cons, List.not_mem_nil, or_false] at hz ⊢; rcases hz with z | z <;> simp [z])⟩
            · refine .inl ⟨_, _, rfl, s56 _ _ f5, (by show 1 ≤ 1000; decide), fun y hy => ?_⟩
              rw [List.mem_singleton.mp hy]
              exact ⟨known_tup (s56 _ _ f4), .tuple [.str "a"], .tup (SqT.of (s56 _ _ f4)) (.cons (.str _) .nil), (fine_tup (n := 0) fun d hd => by rw [List.mem_singleton.mp hd]; exact fine_str (by decide +kernel)).mono (by decide)⟩
            · refine .inl ⟨_, _, rfl, s56 _ _ f7, (by show 1 ≤ 1000; decide), fun y hy => ?_⟩
              rw [List.mem_singleton.mp hy]
              exact ⟨known_lst (s56 _ _ f6), .list [.str "a"], .lst (SqL.of (s56 _ _ f6)) (.cons (.str _) .nil), (fine_list (n := 0) fun d hd => by rw [List.mem_singleton.mp hd]; exact fine_str (by decide +kernel)).mono (by decide)⟩
        refine ⟨_, rfl, x, rfl, hx, fun H7 s7 => ⟨_, rfl, _, rfl, x, rfl, thing_same s7 hx, fun H8 s8 => ⟨_, rfl, rfl, _, rfl, ?_⟩⟩⟩
        refine iteNS (by rw [thing_row s7 hx]) ?_
        exact ⟨v3, _, v5, v6, rfl, (s6.trans s7).trans s8⟩
      · rintro σ H' ⟨v3, v4, v5, v6, rfl, s6⟩
        have row : ∀ (H : Hp) (u : Addr) (xs : List V), H u = some (.tup xs) → rowV H (.ref u) = (diffV xs && decide ((xs.length : Int) ≤ 4)) := fun H u xs e => by
          unfold rowV
          rw [tupOf_at e]
        refine ⟨(by show 0 ≤ sizeLine; decide), fun y0 hy0 => ?_⟩
        refine ⟨_, rfl, .inl ⟨y0, [], rfl, upd_same, by decide, fun y hy => by cases hy⟩, fun H7 s7 => ⟨_, rfl, ?_⟩⟩
        rw [row _ y0 [] upd_same]
        refine iteT ?_
        refine ⟨(by show 4 ≤ sizeLine; decide), fun y1 hy1 => ?_⟩
        refine ⟨_, rfl, .inl ⟨y1, _, rfl, upd_same, by decide, map_item (ys := ["a", "b", "c", "d"]) fun z hz => wd z (by simp only [List.mem_cons, List.not_mem_nil, or_false] at hz ⊢; rcases hz with z | z | z | z <;> simp [z])⟩, fun H8 s8 => ⟨_, rfl, ?_⟩⟩
        rw [row _ y1 _ upd_same]
        rw [show (diffV [.str "a", .str "b", .str "c", .str "d"] && decide ((([.str "a", .str "b", .str "c", .str "d"] : List V).length : Int) ≤ 4)) = true by decide +kernel]
        refine iteT ?_
        refine ⟨(by show 5 ≤ sizeLine; decide), fun y2 hy2 => ?_⟩
        refine ⟨_, rfl, .inl ⟨y2, _, rfl, upd_same, by decide, map_item (ys := ["a", "b", "c", "d", "e"]) wd⟩, fun H9 s9 => ⟨_, rfl, ?_⟩⟩
        rw [row _ y2 _ upd_same]
        exact q _
end
end K02

set_option Elab.async false
set_option maxRecDepth 100000
set_option maxHeartbeats 8000000
namespace K02
open PySem L2 Nb
theorem all_mk {l : PySem.W.OpenLaw} {w : World} {K : PySem.W.Frag} {h : Heap} {mg : Str → Option Value} {fa f1 f2 f3 f4 f5 f6 f7 f8 f9 f10 f11 f12 : Addr} (X : K.In h) (G : h.Ns mainGlobals mg) (hfa : mg "law" = some (.ref fa))
    {od1 an1 od2 an2 od3 an3 od4 an4 od5 an5 od6 an6 od7 an7 od8 an8 od9 an9 od10 an10 od11 an11 od12 an12 : Option Addr}
    {sl1 sl2 sl3 sl4 sl5 sl6 sl7 sl8 sl9 sl10 sl11 sl12 : Array (Option Value)}
    {oc1 kV1 dc1 pm1 cd1 ct1 oc2 kV2 dc2 pm2 cd2 ct2 oc3 kV3 dc3 pm3 cd3 ct3 oc4 kV4 dc4 pm4 cd4 ct4 oc5 kV5 dc5 pm5 cd5 ct5 oc6 kV6 dc6 pm6 cd6 ct6 oc7 kV7 dc7 pm7 cd7 ct7 oc8 kV8 dc8 pm8 cd8 ct8 oc9 kV9 dc9 pm9 cd9 ct9 oc10 kV10 dc10 pm10 cd10 ct10 oc11 kV11 dc11 pm11 cd11 ct11 oc12 kV12 dc12 pm12 cd12 ct12 : Value}
    (a1 : PySem.W.nsIn K mainGlobals "is_name" = some (some (.ref f1))) (l1 : K.lookup f1 = some ⟨oc1, od1, .func (PySem.W.fnOf "is_name" "is_name" (defArgs sName) (defBody sName) (defScope sName) .none kV1 dc1 pm1 an1 cd1 ct1), sl1⟩) (c1 : PySem.W.codeIn K cd1 "is_name" = true) (k1 : PySem.W.keepIn K (.ref f1) = true)
    (a2 : PySem.W.nsIn K mainGlobals "are_names" = some (some (.ref f2))) (l2 : K.lookup f2 = some ⟨oc2, od2, .func (PySem.W.fnOf "are_names" "are_names" (defArgs sNames) (defBody sNames) (defScope sNames) .none kV2 dc2 pm2 an2 cd2 ct2), sl2⟩) (c2 : PySem.W.codeIn K cd2 "are_names" = true) (k2 : PySem.W.keepIn K (.ref f2) = true)
    (a3 : PySem.W.nsIn K mainGlobals "are_different_names" = some (some (.ref f3))) (l3 : K.lookup f3 = some ⟨oc3, od3, .func (PySem.W.fnOf "are_different_names" "are_different_names" (defArgs sDiff) (defBody sDiff) (defScope sDiff) .none kV3 dc3 pm3 an3 cd3 ct3), sl3⟩) (c3 : PySem.W.codeIn K cd3 "are_different_names" = true) (k3 : PySem.W.keepIn K (.ref f3) = true)
    (a4 : PySem.W.nsIn K mainGlobals "is_row" = some (some (.ref f4))) (l4 : K.lookup f4 = some ⟨oc4, od4, .func (PySem.W.fnOf "is_row" "is_row" (defArgs sRow) (defBody sRow) (defScope sRow) .none kV4 dc4 pm4 an4 cd4 ct4), sl4⟩) (c4 : PySem.W.codeIn K cd4 "is_row" = true) (k4 : PySem.W.keepIn K (.ref f4) = true)
    (a5 : PySem.W.nsIn K mainGlobals "_law_source" = some (some (.ref f5))) (l5 : K.lookup f5 = some ⟨oc5, od5, .func (PySem.W.fnOf "_law_source" "_law_source" (defArgs sSource) (defBody sSource) (defScope sSource) .none kV5 dc5 pm5 an5 cd5 ct5), sl5⟩) (c5 : PySem.W.codeIn K cd5 "_law_source" = true) (k5 : PySem.W.keepIn K (.ref f5) = true)
    (a6 : PySem.W.nsIn K mainGlobals "_law_next" = some (some (.ref f6))) (l6 : K.lookup f6 = some ⟨oc6, od6, .func (PySem.W.fnOf "_law_next" "_law_next" (defArgs sNext) (defBody sNext) (defScope sNext) .none kV6 dc6 pm6 an6 cd6 ct6), sl6⟩) (c6 : PySem.W.codeIn K cd6 "_law_next" = true) (k6 : PySem.W.keepIn K (.ref f6) = true)
    (a7 : PySem.W.nsIn K mainGlobals "_law_pick" = some (some (.ref f7))) (l7 : K.lookup f7 = some ⟨oc7, od7, .func (PySem.W.fnOf "_law_pick" "_law_pick" (defArgs sPick) (defBody sPick) (defScope sPick) .none kV7 dc7 pm7 an7 cd7 ct7), sl7⟩) (c7 : PySem.W.codeIn K cd7 "_law_pick" = true) (k7 : PySem.W.keepIn K (.ref f7) = true)
    (a8 : PySem.W.nsIn K mainGlobals "_law_alphabet_name" = some (some (.ref f8))) (l8 : K.lookup f8 = some ⟨oc8, od8, .func (PySem.W.fnOf "_law_alphabet_name" "_law_alphabet_name" (defArgs sAlpha) (defBody sAlpha) (defScope sAlpha) .none kV8 dc8 pm8 an8 cd8 ct8), sl8⟩) (c8 : PySem.W.codeIn K cd8 "_law_alphabet_name" = true) (k8 : PySem.W.keepIn K (.ref f8) = true)
    (a9 : PySem.W.nsIn K mainGlobals "_law_is_name_here" = some (some (.ref f9))) (l9 : K.lookup f9 = some ⟨oc9, od9, .func (PySem.W.fnOf "_law_is_name_here" "_law_is_name_here" (defArgs sNameH) (defBody sNameH) (defScope sNameH) .none kV9 dc9 pm9 an9 cd9 ct9), sl9⟩) (c9 : PySem.W.codeIn K cd9 "_law_is_name_here" = true) (k9 : PySem.W.keepIn K (.ref f9) = true)
    (a10 : PySem.W.nsIn K mainGlobals "_law_is_row_here" = some (some (.ref f10))) (l10 : K.lookup f10 = some ⟨oc10, od10, .func (PySem.W.fnOf "_law_is_row_here" "_law_is_row_here" (defArgs sRowH) (defBody sRowH) (defScope sRowH) .none kV10 dc10 pm10 an10 cd10 ct10), sl10⟩) (c10 : PySem.W.codeIn K cd10 "_law_is_row_here" = true) (k10 : PySem.W.keepIn K (.ref f10) = true)
    (a11 : PySem.W.nsIn K mainGlobals "_law_some_name" = some (some (.ref f11))) (l11 : K.lookup f11 = some ⟨oc11, od11, .func (PySem.W.fnOf "_law_some_name" "_law_some_name" (defArgs sSome) (defBody sSome) (defScope sSome) .none kV11 dc11 pm11 an11 cd11 ct11), sl11⟩) (c11 : PySem.W.codeIn K cd11 "_law_some_name" = true) (k11 : PySem.W.keepIn K (.ref f11) = true)
    (a12 : PySem.W.nsIn K mainGlobals "law" = some (some (.ref f12))) (l12 : K.lookup f12 = some ⟨oc12, od12, .func (PySem.W.fnOf "law" "law" (defArgs sLaw) (defBody sLaw) (defScope sLaw) .none kV12 dc12 pm12 an12 cd12 ct12), sl12⟩) (c12 : PySem.W.codeIn K cd12 "law" = true) (k12 : PySem.W.keepIn K (.ref f12) = true)
    (z_len : PySem.W.nsIn K mainGlobals "len" = some none)
    (z_isinstance : PySem.W.nsIn K mainGlobals "isinstance" = some none)
    (z_str : PySem.W.nsIn K mainGlobals "str" = some none)
    (z_tuple : PySem.W.nsIn K mainGlobals "tuple" = some none)
    (z_all : PySem.W.nsIn K mainGlobals "all" = some none)
    (z_set : PySem.W.nsIn K mainGlobals "set" = some none)
    (z_repr : PySem.W.nsIn K mainGlobals "repr" = some none)
    (z_range : PySem.W.nsIn K mainGlobals "range" = some none)
    {t8 : Tok} (m__LONGEST_NAME : PySem.W.nsIn K mainGlobals "_LONGEST_NAME" = some (some (.int 8 t8)))
    {t4 : Tok} (m__LONGEST_ROW : PySem.W.nsIn K mainGlobals "_LONGEST_ROW" = some (some (.int 4 t4))) :
    ∃ fd : FuncData, (∀ (s : Shared) (v : Value), BindsTo s fd ⟨[v], []⟩ [("_law_script", v)]) ∧ ∀ base : Heap, K.In base → base.Ns mainGlobals mg → FnOk l.prog w K mg base CX0 5 fa fd ["_law_script"] (spLaw K) := by
  have e := hfa.symm.trans (PySem.W.mg_of X G a12)
  cases e
  have FNm := fun_mk (st := sName) l1 c1 k1
  have bNm := FNm.binds (ps := ["thing"]) fun _ _ _ _ _ _ us hl => match us, hl with | [_], _ => rfl
  have gNm := PySem.W.mg_of X G a1
  have FNs := fun_mk (st := sNames) l2 c2 k2
  have bNs := FNs.binds (ps := ["thing"]) fun _ _ _ _ _ _ us hl => match us, hl with | [_], _ => rfl
  have gNs := PySem.W.mg_of X G a2
  have FDf := fun_mk (st := sDiff) l3 c3 k3
  have bDf := FDf.binds (ps := ["thing"]) fun _ _ _ _ _ _ us hl => match us, hl with | [_], _ => rfl
  have gDf := PySem.W.mg_of X G a3
  have FR := fun_mk (st := sRow) l4 c4 k4
  have bR := FR.binds (ps := ["thing"]) fun _ _ _ _ _ _ us hl => match us, hl with | [_], _ => rfl
  have gR := PySem.W.mg_of X G a4
  have FS := fun_mk (st := sSource) l5 c5 k5
  have bS := FS.binds (ps := ["_law_script", "_law_k"]) fun _ _ _ _ _ _ us hl => match us, hl with | [_, _], _ => rfl
  have gS := PySem.W.mg_of X G a5
  have FN := fun_mk (st := sNext) l6 c6 k6
  have bN := FN.binds (ps := ["_law_source_here", "_law_many"]) fun _ _ _ _ _ _ us hl => match us, hl with | [_, _], _ => rfl
  have gN := PySem.W.mg_of X G a6
  have FP := fun_mk (st := sPick) l7 c7 k7
  have bP := FP.binds (ps := ["_law_source_here", "_law_items"]) fun _ _ _ _ _ _ us hl => match us, hl with | [_, _], _ => rfl
  have gP := PySem.W.mg_of X G a7
  have FA := fun_mk (st := sAlpha) l8 c8 k8
  have bA := FA.binds (ps := ["_law_source_here", "_law_most"]) fun _ _ _ _ _ _ us hl => match us, hl with | [_, _], _ => rfl
  have gA := PySem.W.mg_of X G a8
  have FNH := fun_mk (st := sNameH) l9 c9 k9
  have bNH := FNH.binds (ps := ["_law_thing"]) fun _ _ _ _ _ _ us hl => match us, hl with | [_], _ => rfl
  have gNH := PySem.W.mg_of X G a9
  have FRH := fun_mk (st := sRowH) l10 c10 k10
  have bRH := FRH.binds (ps := ["_law_thing"]) fun _ _ _ _ _ _ us hl => match us, hl with | [_], _ => rfl
  have gRH := PySem.W.mg_of X G a10
  have FSo := fun_mk (st := sSome) l11 c11 k11
  have bSo := FSo.binds (ps := ["_law_source_here"]) fun _ _ _ _ _ _ us hl => match us, hl with | [_], _ => rfl
  have gSo := PySem.W.mg_of X G a11
  have FL := fun_mk (st := sLaw) l12 c12 k12
  have n_len := PySem.W.mg_none_of X G z_len
  have n_isinstance := PySem.W.mg_none_of X G z_isinstance
  have n_str := PySem.W.mg_none_of X G z_str
  have n_tuple := PySem.W.mg_none_of X G z_tuple
  have n_all := PySem.W.mg_none_of X G z_all
  have n_set := PySem.W.mg_none_of X G z_set
  have n_repr := PySem.W.mg_none_of X G z_repr
  have n_range := PySem.W.mg_none_of X G z_range
  have g__LONGEST_NAME := PySem.W.mg_of X G m__LONGEST_NAME
  have g__LONGEST_ROW := PySem.W.mg_of X G m__LONGEST_ROW
  refine ⟨PySem.W.fnOf "law" "law" (defArgs sLaw) (defBody sLaw) (defScope sLaw) .none kV12 dc12 pm12 an12 cd12 ct12, fun s v => .of_eq rfl, fun base _ _ => ?_⟩
  have T : NamesTxt mg := ⟨n_len, n_isinstance, n_str, n_tuple, n_all, n_set⟩
  have GN : FnOk l.prog w K mg base CX0 1 _ _ _ spNext := ok_next FN
  have GP : FnOk l.prog w K mg base CX0 2 _ _ _ spPick := ok_pick FP FN bN gN n_len
  have GDf : FnOk l.prog w K mg base CX0 3 _ _ _ (spOf K diffOf) := ok_diff FDf T FNm bNm gNm FNs bNs gNs g__LONGEST_NAME
  exact ok_law FL ⟨T, n_repr, n_range⟩ FS bS gS (ok_source FS n_len) FN bN gN GN FA bA gA (ok_alpha FA FN bN gN GN FP bP gP GP n_len n_range) FSo bSo gSo (ok_some FSo FP bP gP GP) FNm bNm gNm (ok_name FNm T g__LONGEST_NAME) FNH bNH gNH (ok_nameH FNH T) FR bR gR (ok_row FR T FDf bDf gDf GDf g__LONGEST_ROW) FRH bRH gRH (ok_rowH FRH T FNH bNH gNH)
end K02
open PySem PySem.W PyProof.Rows
set_option maxRecDepth 100000 in
set_option maxHeartbeats 0 in
theorem PySem.Challenge.cw_nextbehind_k02_names_recognized_holds : PySem.Challenge.rw_nextbehind_k02_names_recognized.Holds := by
  w_on; o_law; k_head; (case hw => w_witness2)
  k_fill
  refine L2.walk_of (l := PySem.Challenge.rw_nextbehind_k02_names_recognized) (n := 63) (k := 5) (x := "_law_script") (CX := fun _ => L2.CX0) (sp := fun w => Nb.spLaw _) rfl (by decide) rfl ⟨rfl, by decide, by decide⟩ (fun w h Y => PySem.W.kIn_of Y) ?F (fun _ _ a ns hl _ hS => ⟨a, ns, rfl, hS, hl, fun _ => rfl⟩) (fun _ _ _ _ _ h => h)
  case F =>
    intro w mg fa h KX G hmg
    refine' K02.all_mk KX G hmg ?a1 ?l1 ?c1 ?k1 ?a2 ?l2 ?c2 ?k2 ?a3 ?l3 ?c3 ?k3 ?a4 ?l4 ?c4 ?k4 ?a5 ?l5 ?c5 ?k5 ?a6 ?l6 ?c6 ?k6 ?a7 ?l7 ?c7 ?k7 ?a8 ?l8 ?c8 ?k8 ?a9 ?l9 ?c9 ?k9 ?a10 ?l10 ?c10 ?k10 ?a11 ?l11 ?c11 ?k11 ?a12 ?l12 ?c12 ?k12 ?z_len ?z_isinstance ?z_str ?z_tuple ?z_all ?z_set ?z_repr ?z_range ?m__LONGEST_NAME ?m__LONGEST_ROW
    (case a1 => k_is)
    (case l1 => k_is)
    (case c1 => k_is)
    (case k1 => k_is)
    (case a2 => k_is)
    (case l2 => k_is)
    (case c2 => k_is)
    (case k2 => k_is)
    (case a3 => k_is)
    (case l3 => k_is)
    (case c3 => k_is)
    (case k3 => k_is)
    (case a4 => k_is)
    (case l4 => k_is)
    (case c4 => k_is)
    (case k4 => k_is)
    (case a5 => k_is)
    (case l5 => k_is)
    (case c5 => k_is)
    (case k5 => k_is)
    (case a6 => k_is)
    (case l6 => k_is)
    (case c6 => k_is)
    (case k6 => k_is)
    (case a7 => k_is)
    (case l7 => k_is)
    (case c7 => k_is)
    (case k7 => k_is)
    (case a8 => k_is)
    (case l8 => k_is)
    (case c8 => k_is)
    (case k8 => k_is)
    (case a9 => k_is)
    (case l9 => k_is)
    (case c9 => k_is)
    (case k9 => k_is)
    (case a10 => k_is)
    (case l10 => k_is)
    (case c10 => k_is)
    (case k10 => k_is)
    (case a11 => k_is)
    (case l11 => k_is)
    (case c11 => k_is)
    (case k11 => k_is)
    (case a12 => k_is)
    (case l12 => k_is)
    (case c12 => k_is)
    (case k12 => k_is)
    (case z_len => k_is)
    (case z_isinstance => k_is)
    (case z_str => k_is)
    (case z_tuple => k_is)
    (case z_all => k_is)
    (case z_set => k_is)
    (case z_repr => k_is)
    (case z_range => k_is)
    (case m__LONGEST_NAME => k_is)
    (case m__LONGEST_ROW => k_is)
