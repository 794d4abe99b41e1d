import PyProof.Rows.All
import Wide.All
import OpenK.AllK
import Wide.FinOn
import HandS.ForMost
import HandS.Strs
import HandS.IsInst
import HandS.Wide
import HandS.Walk
import KE.GoesEnum
import KE.GoesMore
import HandS.TupAny
import HandS.DictComp
import HandS.Deep
import HandS.Style
import PySem.Challenge.RW_nextbehind_k06_clashes_judged
set_option Elab.async false
set_option maxRecDepth 100000
/-! How many different texts a tuple holds: the value of len(set(t)). -/
namespace Nb
open PySem PySem.Spec PyProof.Rows L2
/-- the different texts of a list, each where it is met first -/
def dis : List Str → List Str
  | [] => []
  | x :: r => x :: (dis r).filter (fun y => !(y == x))
/-- seen so far: one text more -/
def grow (l : List Str) (x : Str) : List Str := if l.any (· == x) then l else l ++ [x]
def seen (xs : List Str) : List Str := xs.foldl grow []
theorem seen_snoc (xs : List Str) (x : Str) : seen (xs ++ [x]) = grow (seen xs) x := by
  unfold seen
  rw [List.foldl_append]
  rfl
theorem grow_any (l : List Str) (x k : Str) : (grow l x).any (· == k) = (l.any (· == k) || decide (k = x)) := by
  unfold grow
  by_cases h : l.any (· == x) = true
  · rw [if_pos h]
    by_cases e : k = x
    · subst e
      rw [h]
      rfl
    · simp [e]
  · rw [if_neg h, List.any_append]
    by_cases e : k = x
    · subst e
      simp
    · have e2 : (x == k) = false := beq_eq_false_iff_ne.mpr fun z => e z.symm
      simp [e, e2]
theorem grow_len (l : List Str) (x : Str) : (grow l x).length = if l.any (· == x) = true then l.length else l.length + 1 := by
  unfold grow
  split <;> simp
theorem grow_le (l : List Str) (x : Str) : (grow l x).length ≤ l.length + 1 := by
  rw [grow_len]
  split <;> omega
theorem seen_le : ∀ xs : List Str, (seen xs).length ≤ xs.length := by
  have key : ∀ (xs l : List Str), (xs.foldl grow l).length ≤ l.length + xs.length := by
    intro xs
    induction xs with
    | nil => intro l; exact Nat.le_refl _
    | cons x r ih =>
      intro l
      have h1 := ih (grow l x)
      have h2 := grow_le l x
      show (r.foldl grow (grow l x)).length ≤ l.length + (r.length + 1)
      omega
  intro xs
  have h := key xs []
  simpa [seen] using h

section
variable {P : Program} {w : World} {A : Around} {E : Value → Shared → Prop} {s : Shared}
abbrev SetS (P : Program) (w : World) (h : Heap) (S : Addr) (l : List Str) : Prop := h.SetOf (PySem.strKind P w) S (fun k => l.any (· == k)) l.length
theorem SetS.to {h h' : Heap} {S : Addr} {l : List Str} (x : SetS P w h S l) (k : ∀ o, h.get? S = some o → h'.get? S = some o) : SetS P w h' S l :=
  let ⟨o, es, ep, t, ho, r⟩ := x
  ⟨o, es, ep, t, k o ho, r⟩
/-- the set takes what is walked, text by text -/
theorem takes_texts {I : Addr} {fp wr : List Addr} {G : Array GenState → Array GenState → Prop} {n : Nat} {Pv : Nat → Value → Prop} {St : Nat → Shared → Prop} {R : Result → Shared → Prop}
    (W : WalksS P w A.in1 I fp wr G n Pv St) (S : Addr) (apart : S ∉ fp) (xs : List Str) (size : n = xs.length) (few : xs.length + 1 < scanBound) (val : ∀ i v, Pv i v → ∃ x t, xs[i]? = some x ∧ v = .str x t) :
    ∀ (m i : Nat) (s : Shared), m + i = n → St i s → SetS P w s.heap S (seen (xs.take i)) →
      (∀ s', Moved (S :: wr) G s s' → SetS P w s'.heap S (seen xs) → R (.ok (.ret .none)) s') → codeAny (model P w) A (.builtin "set.update.loop" ⟨[.ref S, .ref I], []⟩) R s := by
  have out : S ∉ wr := fun z => apart (W.sub _ z)
  have wide : ∀ b ∈ wr, b ∈ S :: wr := fun b z => List.mem_cons_of_mem _ z
  intro m
  induction m with
  | zero =>
    intro i s em here held fin
    refine codeAny_builtin F.entry_set_update_loop (by
      rw [Around.under_plainId F.plain_set_update_loop _]
      refine wpAny_bind (m := pyNext (.ref I)) (W.done s _ _ (by rw [← em, Nat.zero_add]; exact here) fun s' mv => ?_)
      refine wpAny_pure (fin s' (mv.mono wide) ?_)
      have all : xs.take i = xs := List.take_of_length_le (by omega)
      rw [all] at held
      exact held.to fun o e => mv.heap S o out e)
  | succ m ih =>
    intro i s em here held fin
    refine codeAny_builtin F.entry_set_update_loop (by
      rw [Around.under_plainId F.plain_set_update_loop _]
      refine wpAny_bind (m := pyNext (.ref I)) (W.item i s _ _ (by omega) here fun v s' hv here' mv => ?_)
      obtain ⟨x, t, ex, rfl⟩ := val i v hv
      have held' : SetS P w s'.heap S (seen (xs.take i)) := held.to fun o e => mv.heap S o out e
      refine wpAny_bind (m := holding [Value.str x t] (setAdd S (.str x t))) (wpAny_holding ?_)
      unfold setAdd
      refine wpAny_holding (wpAny_bind ((PySem.strKind P w).pyHash (k := x) (strKind_is _ _ _ _) ?_))
      have room : (seen (xs.take i)).length + 1 < scanBound := by
        have h1 := seen_le (xs.take i)
        have h2 : (xs.take i).length ≤ xs.length := by rw [List.length_take]; omega
        omega
      refine wpAny_setAddHashed_of (knd := PySem.strKind P w) (s := { s' with toks := s'.toks + 1 }) (strKind_is _ _ _ _) rfl held' room fun h' only more => ?_
      have step : seen (xs.take (i + 1)) = grow (seen (xs.take i)) x := by
        rw [List.take_add_one, ex]
        exact seen_snoc _ _
      have held2 : SetS P w h' S (seen (xs.take (i + 1))) := by
        rw [step]
        exact SetOf_congr more (fun k => (grow_any _ _ _).symm) (grow_len _ _).symm
      have still : ∀ b, b ≠ S → ∀ o, s'.heap.get? b = some o → h'.get? b = some o := fun b nb o e => by
        rw [only.2 b nb]
        exact e
      exact wpAny_pure ⟨plainId_quiet F.plain_set_update_loop _, ih (i + 1) _ (by omega) (W.frame _ s' _ _ here' (Nat.le_succ _) fun b hb o e => still b (fun z => apart (z ▸ hb)) o e) held2 fun s2 mv2 held3 =>
        fin s2 (Moved.trans W.gtrans ((mv.mono wide).then_heap (Nat.le_succ _) fun b o hb e => still b (fun z => hb (z ▸ List.mem_cons_self)) o e) mv2) held3⟩)
/-- an empty set as it is laid -/
abbrev bareSet (led : Bool) : Obj := { cls := .type "set", dict := none, data := .set #[] 0 (.fresh 0 0 led) }
set_option maxHeartbeats 3200000 in
/-- set(t), t a tuple of texts -/
theorem set_of_texts {l : Addr} {items : Array Value} {xs : List Str} {Q : Value → Shared → Prop} (calm : A.handled = none) (tup : s.heap.IsTuple l items) (txt : StrsAre items.toList xs) (few : xs.length + 1 < scanBound)
    (h : ∀ (h' : Heap) (tk : Nat), SetS P w h' s.heap.objs.size (seen xs) → (∀ b o, s.heap.get? b = some o → h'.get? b = some o) → Q (.ref s.heap.objs.size) { s with heap := h', toks := tk }) :
    wpAny (model P w) A (call (.type "set") [.ref l]) Q E s := by
  have size : items.size = xs.length := by
    have q := StrsAre.len_eq txt
    rw [Array.length_toList] at q
    exact q
  obtain ⟨c, tl, hmro⟩ := F.called_set.mro
  have g1 := F.called_set.made
  have g2 := F.called_set.sub
  have g3 := F.called_set.notType
  have g4 := F.called_set.canCreate
  have g5 := F.typeCall_set_1 (.ref l)
  refine wpAny_call (codeAny_of_tree (show wpAny _ _ (callAny (.type "set") _) _ _ _ from wpAny_pure ⟨Code.quiet_builtin _ (by decide +kernel), codeAny_builtin F.entry_type_call ?_⟩))
  rw [Around.under_plain (weight_type_call_type "set" [.ref l] []) rfl]
  repeat (any_goals (first | assumption | wp_step))
  refine codeAny_mono (code_set_new_1 (.ref l) (E := E) (Q₁ := fun obj s₁ => ∃ led : Bool, obj = .ref s.heap.objs.size ∧ s₁ = { s with heap := s.heap.push (bareSet led) }) fun led => ⟨led, rfl, rfl⟩) fun r s₁ hr => ?_
  rcases r with e | fl
  · exact hr
  cases fl with
  | ret obj =>
    obtain ⟨led, rfl, rfl⟩ := hr
    have at0 : (s.heap.push (bareSet led)).get? s.heap.objs.size = some (bareSet led) := Heap.get?_push_size _ rfl
    have ty0 : Shared.TypeIs { s with heap := s.heap.push (bareSet led) } (.ref s.heap.objs.size) "set" := ⟨_, at0, rfl⟩
    have g6 := F.called_set.init.lookup
    have g7 := F.called_set.init.bind (.ref s.heap.objs.size)
    repeat (any_goals (first | assumption | wp_step))
    refine codeAny_mono (codeAny_call_builtin (R := wants (fun r s₂ => r = .none ∧ ∃ h' tk, s₂ = { s with heap := h', toks := tk } ∧ SetS P w h' s.heap.objs.size (seen xs) ∧ (∀ b o, s.heap.get? b = some o → h'.get? b = some o)) E)
      F.called_set.init.plain F.entry_set_init (check_set_init_1 ty0 ?_)) fun r₂ s₂ hr₂ => ?_
    · obtain ⟨⟨ocls, odict, odata, oslots⟩, ho, hc, nl, hd⟩ := tup
      simp only at hc hd
      subst hc hd
      have ho1 : (s.heap.push (bareSet led)).get? l = some { cls := .type "tuple", dict := odict, data := .seq items nl, slots := oslots } := Heap.get?_push_of_some _ ho
      have g8 := F.sub_tuple_set
      have g9 := F.sub_tuple_frozenset
      have g10 : (Value.type "tuple" == Value.type "dict") = false := by decide
      have tup1 : (s.heap.push (bareSet led)).IsTuple l items := ⟨_, ho1, rfl, nl, rfl⟩
      unfold Builtin.«set.__init__» noKeywords Builtin.Frozenset.updateFrom
      generalize hPI : pyIter = PI
      wp_walk
      subst hPI
      refine wpAny_pyIter_tuple tup1 (wpAny_bind (wpAny_runValue ?_))
      have lt0 : l < s.heap.objs.size := Heap.lt_size ho
      have sz1 : (s.heap.push (bareSet led)).objs.size = s.heap.objs.size + 1 := Heap.size_push ..
      have calm3 : A.in1.in1.in1.handled = none := by simp [calm]
      have ne1 : l ≠ (s.heap.push (bareSet led)).objs.size := by
        rw [sz1]
        exact Nat.ne_of_lt (Nat.lt_succ_of_lt lt0)
      have apart : s.heap.objs.size ∉ [(s.heap.push (bareSet led)).objs.size, l] := fun z => by
        rcases List.mem_cons.mp z with z | z
        · rw [sz1] at z
          exact absurd z (Nat.ne_of_lt (Nat.lt_succ_self _))
        · exact absurd (List.mem_singleton.mp z) (Nat.ne_of_gt lt0)
      refine takes_texts ((Walks.tuple calm3 _ l ne1 items).toS) s.heap.objs.size apart xs size few (fun i v hv => ?_) items.size 0 _ (by omega) ⟨⟨_, Heap.get?_push_size _ rfl, rfl, rfl⟩, (tup1.push _)⟩ ?start fun s' mv held => ?_
      case start =>
        have at1 : ((s.heap.push (bareSet led)).push { cls := .type "tuple_iterator", data := .fields #[.ref l, .int 0 0] }).get? s.heap.objs.size = some (bareSet led) := Heap.get?_push_of_some _ at0
        exact SetOf_congr ((setObjOf_fresh (knd := PySem.strKind P w) led).setOf at1 (by unfold scanBound; omega)) (fun _ => rfl) rfl
      · have hi : i < xs.length := by
          rw [← size]
          exact (Array.getElem?_eq_some_iff.mp hv).1
        obtain ⟨t, e⟩ := SS.strs_at txt i v (by rw [Array.getElem?_toList]; exact hv)
        refine ⟨xs[i], t, List.getElem?_eq_getElem hi, ?_⟩
        rw [e, List.getD_eq_getElem?_getD, List.getElem?_eq_getElem hi]
        rfl
      · obtain ⟨h', gn, dr, tk, os'⟩ := s'
        have eg : gn = s.gens := mv.gens
        have ed : dr = s.drawn := mv.drawn
        have eo : os' = s.os := mv.os
        subst eg ed eo
        refine wpAny_pure ?_
        show wpAny _ _ (ret Value.none) _ _ _
        refine wpAny_pure ⟨rfl, h', tk, rfl, held, fun b o e => ?_⟩
        have lt1 : b < s.heap.objs.size := Heap.lt_size e
        refine mv.heap b o (fun z => ?_) (Heap.get?_push_of_some _ (Heap.get?_push_of_some _ e))
        rcases List.mem_cons.mp z with z | z
        · exact absurd z (Nat.ne_of_lt lt1)
        · rw [List.mem_singleton.mp z, sz1] at lt1
          exact absurd (Nat.lt_trans lt1 (Nat.lt_succ_self _)) (by
            intro q
            have := Nat.lt_of_lt_of_le lt1 (Nat.le_refl _)
            omega)
    · rcases r₂ with e | fl₂
      · exact hr₂
      cases fl₂ with
      | ret r =>
        obtain ⟨rfl, h', tk, rfl, held, kept⟩ := hr₂
        repeat (any_goals (first | assumption | wp_step))
        exact h _ _ held kept
      | _ => exact hr₂.elim
  | _ => exact hr.elim
end
section
variable {X : Cx}
theorem texts_of : ∀ {xs : List Str} {us : List Value}, Vals (xs.map V.str) us → StrsAre us xs
  | [], _, .nil => .nil
  | x :: xs, _, .cons r t => by
    obtain ⟨k, rfl⟩ := r
    exact .cons x k (texts_of t)
/-- len(set(t)), t a tuple of texts -/
def tManyS (K : PySem.W.Frag) (ta : TE) : TE := fun σ H Q => ta σ H fun x H1 => ∃ (l : Addr) (xs : List Str), x = .ref l ∧ SqT K H1 l (xs.map V.str) ∧ xs.length ≤ 4000 ∧ Q (.int ((seen xs).length : Nat)) H1
theorem pe_manyS {a : Expr} {ta : TE} {p p2 q pos : Pos} (hg : Gl X "len") (hm : X.mg "len" = none) (hg2 : Gl X "set") (hm2 : X.mg "set" = none) (ha : PE X a ta) (hc : X.calm = true := by rfl)
    (na : starEach [a] X.env = (false, eval a X.env) :: starEach [] X.env := by rfl) : PE X (.Call (.Name "len" p) [.Call (.Name "set" p2) [a] [] q] [] pos) (tManyS X.K ta) := by
  refine ⟨fun pins s σ H Q I h => Call_ (ld_blt I hg hm boot_len (callWith_builtin1 (args_cons (Call_ (ld_blt I hg2 hm2 boot_set ?_)) rfl) rfl rfl))⟩
  refine callWith_type1 (args_cons (thn (ha.run pins s σ H _ I h) fun v s1 ⟨x, H1, I1, r1, q1⟩ => args_nil ?_) na) na rfl
  obtain ⟨l, xs, rfl, hq, hl, q1⟩ := q1
  cases r1
  obtain ⟨its, r, pl, hz⟩ := I1.tuple hq
  have few := seen_le xs
  refine set_of_texts (I1.ok.hd hc) pl (by simpa using texts_of r) (by unfold scanBound; omega) fun h' tk held kept => args_nil ?_
  obtain ⟨o, es, ep, t, ho, hex, hd, _, _, _, hf, hn⟩ := held
  exact call_len_set ho hex hd hf (by rw [hn]; omega) ⟨.int (seen xs).length, H1, (I1.kept kept).tok _, ⟨_, by rw [hn]⟩, q1⟩
end
end Nb

set_option Elab.async false
set_option maxRecDepth 100000
set_option maxHeartbeats 4000000
/-! Heaps, and the numbers that the laws draw: what is common to all of them. -/
namespace Nb
open PySem L2
/-! ### heaps -/
theorem same_new {H : Hp} {p : Addr} {o : HO} (h : H p = none) : Same H (upd H p o) := fun b x e => by
  rw [upd_ne (ne_of_none e h)]
  exact e
/-- F says nothing of p: so what is stored at p leaves F as it is -/
theorem same_at {F H : Hp} {p : Addr} {o : HO} (s : Same F H) (h : F p = none) : Same F (upd H p o) := fun b x e => by
  rw [upd_ne (ne_of_none e h)]
  exact s _ _ e
theorem same_in {F H : Hp} {p : Addr} {o : HO} (s : Same F H) (h : H p = none) : Same F (upd H p o) := s.trans (same_new h)
/-- the heap without p -/
def del (H : Hp) (p : Addr) : Hp := fun b => if b = p then none else H b
theorem del_at {H : Hp} {p : Addr} : del H p p = none := if_pos rfl
theorem del_ne {H : Hp} {p b : Addr} (h : b ≠ p) : del H p b = H b := if_neg h
theorem del_same {H : Hp} {p : Addr} : Same (del H p) H := fun b o e => by
  by_cases h : b = p
  · subst h
    rw [del_at] at e
    cases e
  · rw [del_ne h] at e
    exact e
theorem same_del {F H : Hp} {p : Addr} (s : Same F H) (h : F p = none) : Same F (del H p) := fun b o e => by
  rw [del_ne (ne_of_none e h)]
  exact s _ _ e
theorem Same.tup {K : PySem.W.Frag} {H H' : Hp} {a : Addr} {xs : List V} (e : Same H H') (h : SqT K H a xs) : SqT K H' a xs := by
  rcases h with (h | ⟨o, h⟩) | h
  · exact .inl (.inl (e _ _ h))
  · exact .inl (.inr ⟨o, e _ _ h⟩)
  · exact .inr h
/-! ### data under more objects -/
section
variable {K : PySem.W.Frag} {H H' : Hp} (s : Same H H')
include s
mutual
theorem dp_same : ∀ (d : PyData) (v : V), Dp K H v d → Dp K H' v d
  | .none, _, .non => .non
  | .bool b, _, .bl _ => .bl b
  | .int i, _, .int _ => .int i
  | .str x, _, .str _ => .str x
  | .list ds, _, .lst h1 h2 => .lst (s.seq h1) (dp_sames ds _ h2)
  | .tuple ds, _, .tup h1 h2 => .tup (Nb.Same.tup s h1) (dp_sames ds _ h2)
theorem dp_sames : ∀ (ds : List PyData) (vs : List V), DpAll K H vs ds → DpAll K H' vs ds
  | [], _, .nil => .nil
  | d :: ds, _, .cons h1 h2 => .cons (dp_same d _ h1) (dp_sames ds _ h2)
end
end
theorem dp_ints {K : PySem.W.Frag} {H : Hp} : ∀ ns : List Int, DpAll K H (ns.map V.int) (ns.map PyData.int)
  | [] => .nil
  | n :: ns => .cons (.int n) (dp_ints ns)
/-- data without dicts, whose texts are texts, not deeper than n -/
def Fine (n : Nat) (d : PyData) : Prop := d.canLay0 = true ∧ d.depth ≤ n
theorem Fine.mono {n m : Nat} {d : PyData} (h : Fine n d) (l : n ≤ m) : Fine m d := ⟨h.1, Nat.le_trans h.2 l⟩
theorem Fine.shaped {n : Nat} {d : PyData} (h : Fine n d) (l : n ≤ 64) : SeqAt.shaped d = true := by
  unfold SeqAt.shaped
  rw [h.1, Bool.true_and]
  exact decide_eq_true (Nat.le_trans h.2 l)
theorem fine_all : ∀ {n : Nat} {ds : List PyData}, (∀ d ∈ ds, Fine n d) → PyData.canLayAll0 ds = true ∧ PyData.depthAll ds ≤ n
  | n, [], _ => by simp [PyData.canLayAll0, PyData.depthAll]
  | n, d :: ds, h => by
    have h1 := h d (List.mem_cons_self ..)
    have h2 := fine_all (n := n) (ds := ds) fun e he => h e (List.mem_cons_of_mem _ he)
    refine ⟨by simp [PyData.canLayAll0, h1.1, h2.1], ?_⟩
    simp only [PyData.depthAll]
    exact Nat.max_le.mpr ⟨h1.2, h2.2⟩
theorem fine_list {n : Nat} {ds : List PyData} (h : ∀ d ∈ ds, Fine n d) : Fine (n + 1) (.list ds) := by
  have k := fine_all h
  exact ⟨by simpa [PyData.canLay0] using k.1, by simpa [PyData.depth] using k.2⟩
theorem fine_tup {n : Nat} {ds : List PyData} (h : ∀ d ∈ ds, Fine n d) : Fine (n + 1) (.tuple ds) := by
  have k := fine_all h
  exact ⟨by simpa [PyData.canLay0] using k.1, by simpa [PyData.depth] using k.2⟩
theorem fine_int (i : Int) : Fine 0 (.int i) := ⟨by simp [PyData.canLay0], by simp [PyData.depth]⟩
theorem fine_non : Fine 0 .none := ⟨by simp [PyData.canLay0], by simp [PyData.depth]⟩
theorem fine_bl (b : Bool) : Fine 0 (.bool b) := ⟨by simp [PyData.canLay0], by simp [PyData.depth]⟩
theorem fine_str {x : Str} (h : PyData.strOk x = true) : Fine 0 (.str x) := ⟨by simpa [PyData.canLay0] using h, by simp [PyData.depth]⟩
theorem fine_ints (ns : List Int) : Fine 1 (.list (ns.map PyData.int)) := fine_list fun d hd => by
  obtain ⟨i, _, rfl⟩ := List.mem_map.mp hd
  exact fine_int i
theorem eqv_nil (ds : List PyData) : PyData.eqv (.list ds) (.list []) = ds.isEmpty := by
  cases ds <;> simp [PyData.eqv, PyData.eqvAll]
/-! ### the source of numbers: a list of three ints -/
def Src (H : Hp) (p : Addr) (b : Nat) : Prop := ∃ c n r : Int, H p = some (.lst [.int c, .int n, .int r]) ∧ 0 ≤ n ∧ n ≤ b
theorem Src.mono {H : Hp} {p : Addr} {b c : Nat} (h : Src H p b) (l : b ≤ c) : Src H p c := by
  obtain ⟨x, n, r, h1, h2, h3⟩ := h
  exact ⟨x, n, r, h1, h2, by omega⟩
theorem Src.some {H : Hp} {p : Addr} {b : Nat} (h : Src H p b) : ∃ o, H p = some o := let ⟨_, _, _, e, _⟩ := h; ⟨_, e⟩
theorem Src.same {F H : Hp} {p : Addr} {b : Nat} (h : Src F p b) (s : Same F H) : Src H p b :=
  let ⟨c, n, r, e, k⟩ := h; ⟨c, n, r, s _ _ e, k⟩
/-- _law_source's promise -/
def spSource (K : PySem.W.Frag) : Sp := fun vs H Q _ => ∃ (a : Addr) (ns : List Int) (k : Nat), vs = [.ref a, .int k] ∧ SqL K H a (ns.map V.int) ∧ ns.length ≤ 63 ∧ k ≤ 1000 ∧
  ∀ H' p, Same H H' → H p = none → Src H' p (3 * k) → Q (.ref p) H'
/-- _law_next's: a number below the second argument; nothing but the source is changed -/
def spNext : Sp := fun vs H Q _ => ∃ (p : Addr) (m : Int) (b : Nat) (F : Hp), vs = [.ref p, .int m] ∧ 1 ≤ m ∧ m < 1000000 ∧ Src H p b ∧ b ≤ 1000000 ∧ F p = none ∧ Same F H ∧
  ∀ H' k, 0 ≤ k → k < m → Same F H' → Src H' p (b + 1) → Q (.int k) H'
/-- _law_pick's: an item of the list -/
def spPick : Sp := fun vs H Q _ => ∃ (p l : Addr) (xs : List V) (b : Nat) (F : Hp), vs = [.ref p, .ref l] ∧ F l = some (.lst xs) ∧ 1 ≤ xs.length ∧ xs.length ≤ 1000 ∧ Src H p b ∧ b ≤ 1000000 ∧ F p = none ∧ Same F H ∧
  ∀ H' x, x ∈ xs → Same F H' → Src H' p (b + 1) → Q x H'
/-! ### frames: what stands beside the source -/
theorem grow_same {F H : Hp} {l : Addr} {o : HO} (s : Same F H) (h : H l = none) : Same F (upd F l o) := same_new (s.free h)
theorem grow_up {F H : Hp} {l : Addr} {o : HO} (s : Same F H) : Same (upd F l o) (upd H l o) := fun b x e => by
  by_cases hb : b = l
  · subst hb
    rw [upd_same] at e ⊢
    exact e
  · rw [upd_ne hb] at e ⊢
    exact s _ _ e
theorem grow_at {F H : Hp} {p l : Addr} {o : HO} {b : Nat} (hF : F p = none) (S : Src H p b) (h : H l = none) : (upd F l o) p = none := by
  obtain ⟨u, e⟩ := S.some
  rw [upd_ne (ne_of_none e h)]
  exact hF
theorem src_new {H : Hp} {p l : Addr} {o : HO} {b : Nat} (S : Src H p b) (h : H l = none) : Src (upd H l o) p b := S.same (same_new h)
/-- what stood at b, not the source, stands there behind a call that was framed by the heap without the source -/
theorem del_get {H H' : Hp} {p b : Addr} {o : HO} (s : Same (del H p) H') (n : b ≠ p) (e : H b = some o) : H' b = some o := s _ _ (by rw [del_ne n]; exact e)
theorem src_ne {H : Hp} {p b : Addr} {n : Nat} {o : HO} (S : Src H p n) (e : H b = some o) (d : ∀ xs, o ≠ .lst xs) : b ≠ p := by
  obtain ⟨c, m, r, e2, _⟩ := S
  exact ne_of e e2 (d _)
/-- the primes -/
def primes : List Int := [2147483647, 2147483629, 2147483587, 2147483579, 2147483563, 2147483549, 2147483543, 2147483497, 2147483489, 2147483477, 2147483423]
theorem prime_at (k : Int) (h0 : 0 ≤ k) (h : k < 11) : ∃ q : Int, atI (primes.map V.int) k = some (.int q) ∧ 2 ≤ q ∧ q < 2 ^ 31 := by
  have hk : k = 0 ∨ k = 1 ∨ k = 2 ∨ k = 3 ∨ k = 4 ∨ k = 5 ∨ k = 6 ∨ k = 7 ∨ k = 8 ∨ k = 9 ∨ k = 10 := by omega
  rcases hk with rfl | rfl | rfl | rfl | rfl | rfl | rfl | rfl | rfl | rfl | rfl
  all_goals exact ⟨_, rfl, by decide, by decide⟩
theorem fmod_pos (x : Int) {m : Int} (h : 1 ≤ m) : 0 ≤ x.fmod m ∧ x.fmod m < m := by
  rw [Int.fmod_eq_emod_of_nonneg x (by omega)]
  exact ⟨Int.emod_nonneg _ (by omega), Int.emod_lt_of_pos _ (by omega)⟩
end Nb

set_option Elab.async false
set_option maxRecDepth 100000
set_option maxHeartbeats 4000000
/-! Names and rows of names, as values. -/
namespace Nb
open PySem L2
def lowA : List Nat := ("a" : Str).cps.toList
def lowZ : List Nat := ("z" : Str).cps.toList
def letterOk (c : Nat) : Bool := !decide ([c] < lowA) && !decide (lowZ < [c])
def isNm (z : Str) : Bool := decide (1 ≤ (z.length : Int)) && decide ((z.length : Int) ≤ 8) && z.cps.toList.all letterOk
def nameV : V → Bool
  | .str z => isNm z
  | _ => false
/-- what is known of a value that may be a name -/
def Known (K : PySem.W.Frag) (H : Hp) (x : V) : Prop := (∃ z, x = .str z ∧ z.length ≤ 1000 ∧ PyData.strOk z = true) ∨ (∀ z, x ≠ .str z) ∧ ∃ T, TyX K H x (.type T) ∧ kitB T "str" = some false
def Item (K : PySem.W.Frag) (H : Hp) (x : V) : Prop := Known K H x ∧ ∃ d, Dp K H x d ∧ Fine 8 d
def tupOf (H : Hp) : V → Option (List V)
  | .ref a => match H a with
    | some (.tup xs) => some xs
    | some (.frz _ (.tup xs)) => some xs
    | _ => none
  | _ => none
def Thing (K : PySem.W.Frag) (H : Hp) (x : V) : Prop :=
  (∃ a xs, x = .ref a ∧ Rd H a (.tup xs) ∧ xs.length ≤ 1000 ∧ ∀ y ∈ xs, Item K H y) ∨ (∀ H', Same H H' → tupOf H' x = none) ∧ ∃ T, TyX K H x (.type T) ∧ kitB T "tuple" = some false
def strsOf (xs : List V) : List Str := xs.filterMap fun | .str z => some z | _ => none
def diffV (xs : List V) : Bool := xs.all nameV && decide (((seen (strsOf xs)).length : Int) = xs.length)
def namesV (H : Hp) (x : V) : Bool := match tupOf H x with
  | some xs => xs.all nameV
  | none => false
def diffOf (H : Hp) (x : V) : Bool := match tupOf H x with
  | some xs => diffV xs
  | none => false
def rowV (H : Hp) (x : V) : Bool := match tupOf H x with
  | some xs => diffV xs && decide ((xs.length : Int) ≤ 4)
  | none => false
theorem tupOf_at {H : Hp} {a : Addr} {xs : List V} (h : Rd H a (.tup xs)) : tupOf H (.ref a) = some xs := by
  show (match H a with | some (.tup xs) => some xs | some (.frz _ (.tup xs)) => some xs | _ => none) = some xs
  rcases h with h | ⟨o, h⟩
  · rw [h]
  · rw [h]
theorem rd_same {H H' : Hp} (s : Same H H') {a : Addr} {u : HO} (h : Rd H a u) : Rd H' a u := by
  rcases h with h | ⟨o, h⟩
  · exact .inl (s _ _ h)
  · exact .inr ⟨o, s _ _ h⟩
theorem rd_ty {K : PySem.W.Frag} {H : Hp} {a : Addr} {xs : List V} (h : Rd H a (.tup xs)) : TyX K H (.ref a) (.type "tuple") := by
  rcases h with h | ⟨o, h⟩
  · exact .base (.tup h)
  · exact .fTuple h
theorem strs_map : ∀ {xs : List V}, xs.all nameV = true → xs = (strsOf xs).map V.str
  | [], _ => rfl
  | x :: xs, h => by
    rw [List.all_cons, Bool.and_eq_true] at h
    have ih := strs_map h.2
    cases x with
    | str z =>
      show V.str z :: xs = V.str z :: (strsOf xs).map V.str
      rw [← ih]
    | _ => exact absurd h.1 (by simp [nameV])
theorem tyx_same {K : PySem.W.Frag} {H H' : Hp} (s : Same H H') {x : V} {t : Value} (h : TyX K H x t) : TyX K H' x t := by
  cases h with
  | base b =>
    refine .base ?_
    cases b with
    | non => exact .non
    | bl x => exact .bl x
    | int i => exact .int i
    | str x => exact .str x
    | flt x => exact .flt x
    | lst e => exact .lst (s _ _ e)
    | frz e => exact .frz (s _ _ e)
    | tup e => exact .tup (s _ _ e)
    | dK e => exact .dK (s _ _ e)
    | dT e => exact .dT (s _ _ e)
    | ins e cl ha hn htk hm => exact .ins (s _ _ e) cl ha hn htk hm
  | byt b => exact .byt b
  | set e => exact .set (s _ _ e)
  | kList e c => exact .kList e c
  | kTuple e c => exact .kTuple e c
  | kDict e c => exact .kDict e c
  | fTuple e => exact .fTuple (s _ _ e)
  | fDict e => exact .fDict (s _ _ e)
theorem known_same {K : PySem.W.Frag} {H H' : Hp} (s : Same H H') {x : V} (h : Known K H x) : Known K H' x := by
  rcases h with h | ⟨h1, T, h2, h3⟩
  · exact .inl h
  · exact .inr ⟨h1, T, tyx_same s h2, h3⟩
theorem item_same {K : PySem.W.Frag} {H H' : Hp} (s : Same H H') {x : V} (h : Item K H x) : Item K H' x :=
  ⟨known_same s h.1, let ⟨d, h1, h2⟩ := h.2; ⟨d, dp_same s d x h1, h2⟩⟩
theorem thing_same {K : PySem.W.Frag} {H H' : Hp} (s : Same H H') {x : V} (h : Thing K H x) : Thing K H' x := by
  rcases h with ⟨a, xs, h1, h2, h3, h4⟩ | ⟨h1, T, h2, h3⟩
  · exact .inl ⟨a, xs, h1, rd_same s h2, h3, fun y hy => item_same s (h4 y hy)⟩
  · exact .inr ⟨fun H2 s2 => h1 H2 (s.trans s2), T, tyx_same s h2, h3⟩
theorem thing_tup {K : PySem.W.Frag} {H H' : Hp} (s : Same H H') {x : V} (h : Thing K H x) : tupOf H' x = tupOf H x := by
  rcases h with ⟨a, xs, rfl, h2, h3, h4⟩ | ⟨h1, _⟩
  · rw [tupOf_at h2, tupOf_at (rd_same s h2)]
  · rw [h1 _ s, h1 _ (Same.refl H)]
theorem thing_row {K : PySem.W.Frag} {H H' : Hp} (s : Same H H') {x : V} (h : Thing K H x) : rowV H' x = rowV H x := by
  unfold rowV
  rw [thing_tup s h]
/-- a value that is no object -/
theorem thing_flat {K : PySem.W.Frag} {H : Hp} {x : V} (h : ∀ a, x ≠ .ref a) {T : String} (t : TyX K H x (.type T)) (k : kitB T "tuple" = some false) : Thing K H x := by
  refine .inr ⟨fun H' _ => ?_, T, t, k⟩
  cases x with
  | ref a => exact absurd rfl (h a)
  | _ => rfl
theorem thing_str {K : PySem.W.Frag} {H : Hp} (z : Str) : Thing K H (.str z) := thing_flat (fun a => by intro e; cases e) (.base (.str z)) (by decide +kernel)
theorem thing_lst {K : PySem.W.Frag} {H : Hp} {a : Addr} {xs : List V} (h : H a = some (.lst xs)) : Thing K H (.ref a) := by
  refine .inr ⟨fun H' s => ?_, "list", .base (.lst h), by decide +kernel⟩
  show (match H' a with | some (.tup xs) => some xs | some (.frz _ (.tup xs)) => some xs | _ => none) = none
  rw [s _ _ h]
theorem thing_dct {K : PySem.W.Frag} {H : Hp} {a : Addr} {xs : List (Key × V)} (h : H a = some (.dK xs)) : Thing K H (.ref a) := by
  refine .inr ⟨fun H' s => ?_, "dict", .base (.dK h), by decide +kernel⟩
  show (match H' a with | some (.tup xs) => some xs | some (.frz _ (.tup xs)) => some xs | _ => none) = none
  rw [s _ _ h]
theorem known_str {K : PySem.W.Frag} {H : Hp} {z : Str} (h : z.length ≤ 1000) (o : PyData.strOk z = true) : Known K H (.str z) := .inl ⟨z, rfl, h, o⟩
theorem known_non {K : PySem.W.Frag} {H : Hp} : Known K H .non := .inr ⟨(fun z e => by cases e), "NoneType", .base .non, by decide +kernel⟩
theorem known_int {K : PySem.W.Frag} {H : Hp} (i : Int) : Known K H (.int i) := .inr ⟨(fun z e => by cases e), "int", .base (.int i), by decide +kernel⟩
theorem known_bl {K : PySem.W.Frag} {H : Hp} (b : Bool) : Known K H (.bl b) := .inr ⟨(fun z e => by cases e), "bool", .base (.bl b), by decide +kernel⟩
theorem known_tup {K : PySem.W.Frag} {H : Hp} {a : Addr} {xs : List V} (h : H a = some (.tup xs)) : Known K H (.ref a) := .inr ⟨(fun z e => by cases e), "tuple", .base (.tup h), by decide +kernel⟩
theorem known_lst {K : PySem.W.Frag} {H : Hp} {a : Addr} {xs : List V} (h : H a = some (.lst xs)) : Known K H (.ref a) := .inr ⟨(fun z e => by cases e), "list", .base (.lst h), by decide +kernel⟩
theorem known_dct {K : PySem.W.Frag} {H : Hp} {a : Addr} {xs : List (Key × V)} (h : H a = some (.dK xs)) : Known K H (.ref a) := .inr ⟨(fun z e => by cases e), "dict", .base (.dK h), by decide +kernel⟩
theorem item_str {K : PySem.W.Frag} {H : Hp} {z : Str} (h : z.length ≤ 1000) (o : PyData.strOk z = true) : Item K H (.str z) := ⟨known_str h o, .str z, .str z, (fine_str o).mono (by decide)⟩
theorem item_non {K : PySem.W.Frag} {H : Hp} : Item K H .non := ⟨known_non, .none, .non, fine_non.mono (by decide)⟩
/-- a text that is short, its signs signs -/
def Word (z : Str) : Prop := z.length ≤ 1000 ∧ PyData.strOk z = true
theorem Word.item {K : PySem.W.Frag} {H : Hp} {z : Str} (h : Word z) : Item K H (.str z) := item_str h.1 h.2
theorem strOk_append {x y : Str} (h : PyData.strOk x = true) (k : PyData.strOk y = true) : PyData.strOk (x ++ y) = true := by
  unfold PyData.strOk at *
  rw [Array.all_eq_true_iff_forall_mem] at *
  intro c hc
  have hc2 : c ∈ x.cps ++ y.cps := hc
  rcases Array.mem_append.mp hc2 with z | z
  · exact h c z
  · exact k c z
theorem strOk_cut {x : Str} (h : PyData.strOk x = true) (lo hi : Option Int) : PyData.strOk (cutS x lo hi) = true := by
  unfold PyData.strOk at *
  rw [Array.all_eq_true_iff_forall_mem] at *
  intro c hc
  have hc2 : c ∈ ((x.cps.toList.drop (HT.sIx x.length 0 lo)).take (HT.sIx x.length x.length hi - HT.sIx x.length 0 lo)) := by
    have : c ∈ (cutS x lo hi).cps.toList := by simpa using hc
    simpa [cutS] using this
  have h3 : c ∈ x.cps.toList := List.mem_of_mem_drop (List.mem_of_mem_take hc2)
  exact h c (by simpa using h3)
/-- repr(b), b a bool -/
theorem cr_reprB {X : Cx} : CallR X (.builtin "repr") (fun xs H Q => ∃ b : Bool, xs = [.bl b] ∧ Q (.str (if b then "True" else "False")) H) := by
  intro pins s σ H xs us Q I r h
  obtain ⟨b, rfl, q⟩ := h
  obtain ⟨u, rfl, ru⟩ := vals1 r
  cases (show u = Value.bool b from ru)
  refine PySem.P.repr_of_bool ⟨.str _, H, I.tok _, ⟨_, rfl⟩, ?_⟩
  exact q
/-- a comprehension over a text, its elements read off the signs -/
theorem lc_str {x : Str} {g : TG} {tt : TT} {te : TE} {vs : List Nat} {σ : St} {H1 : Hp} {D : Addr} {Qd : Hp → Prop} (Pv : Nat → Hp → Prop) (h0 : Pv 0 (upd H1 D (.lst [])))
    (hs : ∀ i c H, x.cps.toList[i]? = some c → Pv i H → g (.str ⟨#[c]⟩) (wipe σ vs) H fun σ2 H2 => wipe σ2 vs = wipe σ vs ∧ tt σ2 H2 fun b H3 =>
      if b = true then te σ2 H3 fun y H4 => ∃ acc, H4 D = some (.lst acc) ∧ acc.length < sizeLine ∧ Pv (i + 1) (upd H4 D (.lst (acc ++ [y]))) else Pv (i + 1) H3) (hd : ∀ H, Pv x.cps.toList.length H → Qd H) :
    ∃ W : Nat → Nat → Hp → Prop, (∃ m, W 0 m (upd H1 D (.lst []))) ∧ ∀ i m H, W i m H →
      ((Its x).stop i H ∧ Qd H) ∨ ((Its x).go i H ∧ ∃ Nx : Hp → Prop, (∀ H', Nx H' → ∃ m', m' < m ∧ W (i + 1) m' H') ∧ ∀ y H', (Its x).yld i H y H' → g y (wipe σ vs) H' fun σ2 H2 => wipe σ2 vs = wipe σ vs ∧ tt σ2 H2 fun b H3 =>
        if b = true then te σ2 H3 fun y H4 => ∃ acc, H4 D = some (.lst acc) ∧ acc.length < sizeLine ∧ Nx (upd H4 D (.lst (acc ++ [y]))) else Nx H3) := by
  have sz : x.cps.toList.length = x.cps.size := Array.length_toList
  refine ⟨fun i m H => m + i = x.cps.size ∧ Pv i H, ⟨x.cps.size, by omega, h0⟩, fun i m H ⟨em, p⟩ => ?_⟩
  by_cases hlt : i < x.cps.size
  · refine .inr ⟨hlt, Pv (i + 1), fun H' p' => ⟨m - 1, by omega, by omega, p'⟩, fun y H' hy => ?_⟩
    obtain ⟨rfl, c, hc, rfl⟩ := hy
    exact hs i c _ (by rw [Array.getElem?_toList]; exact hc) p
  · have e : i = x.cps.toList.length := by omega
    subst e
    exact .inl ⟨by show x.cps.size ≤ _; omega, hd H p⟩
theorem all_filter {α : Type} (f : α → Bool) : ∀ xs : List α, (xs.filter fun x => !f x).isEmpty = xs.all f
  | [] => rfl
  | x :: xs => by
    rw [List.filter_cons, List.all_cons, ← all_filter f xs]
    cases f x <;> rfl
theorem dps {K : PySem.W.Frag} {H : Hp} : ∀ {xs : List V}, (∀ x ∈ xs, ∃ d, Dp K H x d ∧ Fine 8 d) → ∃ ds, DpAll K H xs ds ∧ (∀ d ∈ ds, Fine 8 d) ∧ ds.isEmpty = xs.isEmpty
  | [], _ => ⟨[], .nil, (fun _ h => by cases h), rfl⟩
  | x :: xs, h => by
    obtain ⟨d, h1, h2⟩ := h x (List.mem_cons_self ..)
    obtain ⟨ds, h3, h4, _⟩ := dps (xs := xs) fun y hy => h y (List.mem_cons_of_mem _ hy)
    exact ⟨d :: ds, .cons h1 h3, fun e he => by
      rcases List.mem_cons.mp he with rfl | he
      · exact h2
      · exact h4 e he, rfl⟩
/-- is_name's promise -/
def spName (K : PySem.W.Frag) : Sp := fun vs H Q _ => ∃ x, vs = [x] ∧ Known K H x ∧ ∀ H', Same H H' → Q (.bl (nameV x)) H'
def spOf (K : PySem.W.Frag) (f : Hp → V → Bool) : Sp := fun vs H Q _ => ∃ x, vs = [x] ∧ Thing K H x ∧ ∀ H', Same H H' → Q (.bl (f H x)) H'
/-- what is asked of the module's names -/
structure NamesTxt (mg : Str → Option Value) : Prop where
  len : mg "len" = none
  isi : mg "isinstance" = none
  str : mg "str" = none
  tup : mg "tuple" = none
  all : mg "all" = none
  set : mg "set" = none
end Nb

set_option Elab.async false
set_option maxRecDepth 100000
set_option maxHeartbeats 4000000
/-! enumerate(t), t a tuple. -/
namespace Nb
open PySem PySem.Spec PyProof.Rows L2
/-- the two cells of an enumerate over what begins -/
theorem enumerates {v : Value} {o : Obj} {G : Heap → Prop} (B : Begins v o G) :
    Meets (Builtin.«enumerate.__new__» ⟨[.type "enumerate", v], []⟩) (fun _ R s => G s.heap ∧
      R (.ok (.ret (.ref (s.heap.push o).objs.size))) { s with heap := (s.heap.push o).push { cls := .type "enumerate", data := .fields #[.none, .bool false, .ref s.heap.objs.size, rawInt 0, .none, .none] } }) :=
  .of_wp fun prog w A R s h => by
    obtain ⟨hp, g, d, tk, os⟩ := s
    obtain ⟨here, h⟩ := h
    have hsub := sub_enumerate
    have begin_ : ∀ {A' : Around} {E : Value → Shared → Prop} {Q : Value → Shared → Prop}, Q (.ref hp.objs.size) ⟨hp.push o, g, d, tk, os⟩ → wpAny (model prog w) A' (pyIter v) Q E ⟨hp, g, d, tk, os⟩ :=
      fun q => B.iter prog w _ _ ⟨hp, g, d, tk, os⟩ _ here q
    wp_walk using begin_
    refine wpAny_stack_any fun st => wpAny_pure ?_
    split
    case h_1 c _ _ _ _ _ =>
      cases (c == Value.type "enumerate") <;> (wp_walk using begin_; exact ⟨_, rfl, h⟩)
    case h_2 =>
      wp_walk using begin_
      exact ⟨_, rfl, h⟩
theorem enumerate_made {prog : Program} {w : World} {A : Around} {E : Value → Shared → Prop} {s : Shared} {v : Value} {o : Obj} {G : Heap → Prop} {Q : Value → Shared → Prop} (B : Begins v o G) (here : G s.heap)
    (h : ∀ h', IsEnum h' (s.heap.objs.size + 1) s.heap.objs.size 0 .none → h'.get? s.heap.objs.size = some o → (∀ b u, s.heap.get? b = some u → h'.get? b = some u) → Q (.ref (s.heap.objs.size + 1)) { s with heap := h' }) :
    wpAny (model prog w) A (call (.type "enumerate") [v]) Q E s := by
  refine callType_new F.called_enumerate (by decide) (F.typeCall_enumerate_1 _) (F.newCall_enumerate_1 _) (fun obj => F.args_object_init_2 obj _) F.entry_enumerate_new (enumerates B) ⟨here, ?_⟩
  have two : (s.heap.push o).objs.size = s.heap.objs.size + 1 := Heap.size_push ..
  show _ ∧ _
  rw [two]
  have made := Heap.get?_push_size (s.heap.push o) (o := { cls := .type "enumerate", data := .fields #[.none, .bool false, .ref s.heap.objs.size, rawInt 0, .none, .none] }) rfl
  rw [two] at made
  exact ⟨⟨_, made, rfl⟩, h _ made (Heap.get?_push_of_some _ (Heap.get?_push_size _ B.free)) fun b u x => Heap.get?_push_of_some _ (Heap.get?_push_of_some _ x)⟩
/-- the tuple at a, each item in a new pair with its index -/
def Itet (K : PySem.W.Frag) (a : Addr) : It :=
  ⟨fun i H => ∃ (xs : List V) (x : V), SqT K H a xs ∧ xs[i]? = some x, fun i H v H' => ∃ T x, v = .ref T ∧ H T = none ∧ H' = upd H T (.tup [.int (i : Nat), x]) ∧ ∀ xs, SqT K H a xs → xs[i]? = some x, fun i H => ∃ xs : List V, SqT K H a xs ∧ xs.length = i⟩
theorem turn_enumT {P : Program} {w : World} {K : PySem.W.Frag} {elts : List Expr} {kk : Nat} {tpos : Pos} (a e it : Addr) :
    Turn P w K (.Tuple elts kk tpos) (Itet K a) [e, it] e (fun i h => (∃ old, IsEnum h e it ((i : Nat) : Int) old) ∧ h.IsTupleIter it a i ∧ e ≠ it) where
  mem := by simp
  obj := fun i h st b hb => by
    obtain ⟨⟨old, he⟩, ⟨o, ho, _, hd⟩, _⟩ := st
    have z : b = e ∨ b = it := by simpa using hb
    rcases z with rfl | rfl
    · exact ⟨_, he, fun v q => nomatch q⟩
    · exact ⟨o, ho, fun v q => by rw [hd] at q; cases q⟩
  keep := fun i h h' ⟨⟨old, he⟩, hi, hne⟩ k => ⟨⟨old, k e (by simp) _ he⟩, hi.at fun o q => k it (by simp) o q, hne⟩
  item := by
    intro X hP hw hK hc i pins s σ H E I hf st hg
    subst hP hw hK
    obtain ⟨⟨old, he⟩, hit, hne⟩ := st
    obtain ⟨xs, x, hq, hx⟩ := hg
    obtain ⟨its, rv, tp, hz⟩ := I.tuple hq
    obtain ⟨u, hu, ru⟩ := rv.get hx
    have hel : e < s.heap.objs.size := Heap.lt_size he
    have hil : it < s.heap.objs.size := by
      obtain ⟨_, q, _⟩ := hit
      exact Heap.lt_size q
    have nta : a ≠ it := fun z => by
      obtain ⟨o1, e1, c1, _⟩ := hit
      obtain ⟨o2, e2, c2, _⟩ := tp
      rw [z, e1] at e2
      cases e2
      rw [c1] at c2
      injection c2 with c3
      exact absurd c3 (by decide)
    have nea : e ≠ a := fun z => by
      obtain ⟨o2, e2, c2, _⟩ := tp
      have e3 : s.heap.get? a = _ := z ▸ he
      rw [e3] at e2
      cases e2
      injection c2 with c3
      exact absurd c3 (by decide)
    have D := Draws.tuple (prog := X.prog) (w := X.w) (A := X.A.in1) (show X.A.in1.handled = none from I.ok.hd hc) it a nta its.toArray
    have sz : i < its.toArray.size := by
      have := (List.getElem?_eq_some_iff.mp hu).1
      simpa using this
    refine wpAny_pyNext_enum_itemD D he ⟨hit, tp⟩ sz hne (by simp [hne, nea]) fun y h' tk py ho st' hT hsz hk => ?_
    have ey : y = u := by
      have p2 : its.toArray[i]? = some u := by simpa using hu
      exact Option.some.inj (py.symm.trans p2)
    subst ey
    refine ⟨_, rfl, wpAny_letOwnedTupleGo_enum (s := { s with heap := h', toks := tk + 1 }) ho fun h'' he' sb => ?_⟩
    have hT2 : h''.get? s.heap.objs.size = some { cls := .type "tuple", data := .seq #[.int i tk, y] } := (sb.2 _ (Nat.ne_of_gt hel)).trans hT
    have new : ObjOk X.prog X.w (upd H s.heap.objs.size (.tup [.int (i : Nat), x])) h'' s.heap.objs.size (.tup [.int (i : Nat), x]) :=
      ⟨by show 2 ≤ sizeLine; decide, [.int i tk, y], .cons ⟨_, rfl⟩ (.cons ru .nil), ⟨_, hT2, rfl, _, rfl⟩⟩
    have I1 : Inv X pins σ (upd H s.heap.objs.size (.tup [.int (i : Nat), x])) { s with heap := h'', toks := tk + 1 } :=
      I.turnedNew (ch := [e, it]) (fun b ob hb q => (sb.2 b (fun z => hb (by simp [z]))).trans (hk b ob (fun z => hb (by simp [z])) (fun z => hb (by simp [z])) q)) hf (Nat.le_refl _) new
    refine ⟨.ref s.heap.objs.size, _, I1, rfl, ⟨_, x, rfl, I.hok.fresh (Nat.le_refl _), rfl, fun ys hy => by rw [I.tuple_inj hy hq]; exact hx⟩, ⟨⟨y, ?_⟩, st'.1.at fun o q => (sb.2 it (Ne.symm hne)).trans q, hne⟩, fun b hb => ?_⟩
    · have e1 : ((i + 1 : Nat) : Int) = (i : Int) + 1 := by omega
      rw [e1]
      exact he'
    · have hb' : b < s.heap.objs.size := by
        have z : b = e ∨ b = it := by simpa using hb
        rcases z with rfl | rfl
        · exact hel
        · exact hil
      rw [upd_ne (Nat.ne_of_lt hb')]
      exact (hf b hb).1
  done := by
    intro X hP hw hK hc i pins s σ H E I hf st hg
    subst hP hw hK
    obtain ⟨⟨old, he⟩, hit, hne⟩ := st
    obtain ⟨xs, hq, hx⟩ := hg
    obtain ⟨its, rv, tp, hz⟩ := I.tuple hq
    obtain ⟨f0, f1, f2, f3, f4, f5⟩ := hf it (by simp)
    have nta : a ≠ it := fun z => by
      obtain ⟨o1, e1, c1, _⟩ := hit
      obtain ⟨o2, e2, c2, _⟩ := tp
      rw [z, e1] at e2
      cases e2
      rw [c1] at c2
      injection c2 with c3
      exact absurd c3 (by decide)
    have sz : its.toArray.size = i := by
      have hl := rv.length
      rw [List.size_toArray, ← hl, hx]
    have D := Draws.tuple (prog := X.prog) (w := X.w) (A := X.A.in1) (show X.A.in1.handled = none from I.ok.hd hc) it a nta its.toArray
    refine wpAny_pyNext_enum_endD D he ⟨by rw [sz]; exact hit, tp⟩ fun h' eb => ⟨rfl, I.turned (t' := s.toks) (fun b o hb q => eb b o hb q) f0 f1 f3 f4 f5⟩
  self := fun A i s Q E st h => let ⟨⟨_, he⟩, _⟩ := st; wpAny_pyIter_enum he h
def iEnumT (K : PySem.W.Frag) (ta : TA) : TI := fun σ H R => ta σ H fun vs H1 => ∃ a xs, vs = [.ref a] ∧ SqT K H1 a xs ∧ R (Itet K a) H1
theorem pi_enumT {X : Cx} {e : Expr} {ta : TA} {p pos tpos : Pos} {elts : List Expr} {kk : Nat} (hg : Gl X "enumerate") (hm : X.mg "enumerate" = none) (ha : PA X [e] ta) (hs : starEach [e] X.env = [(false, eval e X.env)] := by rfl) :
    PI X (.Tuple elts kk tpos) (.Call (.Name "enumerate" p) [e] [] pos) (iEnumT X.K ta) := by
  refine ⟨fun pins s σ H R I h => Call_ (ld_blt I hg hm boot_enumerate (callWith_type1 (thn (ha.run pos pins s σ H _ I h) fun us s1 ⟨vs, H1, I1, r1, q1⟩ => ?_) hs rfl))⟩
  obtain ⟨a, xs, rfl, hq, q⟩ := q1
  cases r1 with
  | cons r rr =>
    cases rr
    cases r
    obtain ⟨its, rv, tp, hz⟩ := I1.tuple hq
    refine enumerate_made (begins_tuple a its.toArray) tp fun h' he hit hk => wpAny_pyIter_enum he ?_
    refine ⟨s1.heap.objs.size + 1, [s1.heap.objs.size + 1, s1.heap.objs.size], _, _, H1, rfl, I1.kept (t' := s1.toks) hk, turn_enumT a (s1.heap.objs.size + 1) s1.heap.objs.size, ⟨⟨.none, he⟩, ⟨_, hit, rfl, rfl⟩, Nat.succ_ne_self _⟩, fun b hb => ?_, q⟩
    have hle : s1.heap.objs.size ≤ b := by
      have z : b = s1.heap.objs.size + 1 ∨ b = s1.heap.objs.size := by simpa using hb
      rcases z with rfl | rfl
      · exact Nat.le_succ _
      · exact Nat.le_refl _
    have I2 : Inv X pins σ H1 { s1 with heap := h' } := I1.kept (t' := s1.toks) hk
    have old := I1.fpOk hle (I1.hok.fresh hle)
    exact old
theorem walk_enumT {K : PySem.W.Frag} {a : Addr} {xs : List V} : Walk (Itet K a) xs.length (fun H => SqT K H a xs) (YPair (fun i => some (.int (i : Nat))) (fun i => xs[i]?)) :=
  ⟨fun i H hi h => ⟨xs, xs[i], h, List.getElem?_eq_getElem hi⟩, fun H h => ⟨xs, h, rfl⟩, fun i H v H' hi h hy => by
    obtain ⟨T, x, e1, e2, e3, e4⟩ := hy
    exact ⟨T, .int (i : Nat), x, e1, e2, e3, rfl, e4 xs h⟩⟩
end Nb

set_option Elab.async false
set_option maxRecDepth 100000
set_option maxHeartbeats 4000000
/-! Data that stands in the heap, to a depth; rows of names. -/
namespace Nb
open PySem L2
mutual
/-- the value is this data: texts short, lists and tuples short, not deeper than n, no dict -/
inductive Td (H : Hp) : Nat → V → PyData → Prop
  | non {n} : Td H n .non .none
  | bl {n} (b : Bool) : Td H n (.bl b) (.bool b)
  | int {n} (i : Int) : Td H n (.int i) (.int i)
  | str {n} {z : Str} (h : Word z) : Td H n (.str z) (.str z)
  | lst {n} {a : Addr} {xs : List V} {ds : List PyData} (e : H a = some (.lst xs)) (l : xs.length ≤ 1000) (h : Tds H n xs ds) : Td H (n + 1) (.ref a) (.list ds)
  | tup {n} {a : Addr} {xs : List V} {ds : List PyData} (e : H a = some (.tup xs)) (l : xs.length ≤ 1000) (h : Tds H n xs ds) : Td H (n + 1) (.ref a) (.tuple ds)
inductive Tds (H : Hp) : Nat → List V → List PyData → Prop
  | nil {n} : Tds H n [] []
  | cons {n} {x : V} {d : PyData} {xs : List V} {ds : List PyData} (h : Td H n x d) (t : Tds H n xs ds) : Tds H n (x :: xs) (d :: ds)
end
section
variable {H H' : Hp}
mutual
theorem td_same (s : Same H H') : ∀ {n : Nat} {x : V} {d : PyData}, Td H n x d → Td H' n x d
  | _, _, _, .non => .non
  | _, _, _, .bl b => .bl b
  | _, _, _, .int i => .int i
  | _, _, _, .str h => .str h
  | _, _, _, .lst e l h => .lst (s _ _ e) l (tds_same s h)
  | _, _, _, .tup e l h => .tup (s _ _ e) l (tds_same s h)
theorem tds_same (s : Same H H') : ∀ {n : Nat} {xs : List V} {ds : List PyData}, Tds H n xs ds → Tds H' n xs ds
  | _, _, _, .nil => .nil
  | _, _, _, .cons h t => .cons (td_same s h) (tds_same s t)
end
mutual
theorem td_up : ∀ {n : Nat} {x : V} {d : PyData}, Td H n x d → Td H (n + 1) x d
  | _, _, _, .non => .non
  | _, _, _, .bl b => .bl b
  | _, _, _, .int i => .int i
  | _, _, _, .str h => .str h
  | _, _, _, .lst e l h => .lst e l (tds_up h)
  | _, _, _, .tup e l h => .tup e l (tds_up h)
theorem tds_up : ∀ {n : Nat} {xs : List V} {ds : List PyData}, Tds H n xs ds → Tds H (n + 1) xs ds
  | _, _, _, .nil => .nil
  | _, _, _, .cons h t => .cons (td_up h) (tds_up t)
end
mutual
theorem td_dp {K : PySem.W.Frag} : ∀ {n : Nat} {x : V} {d : PyData}, Td H n x d → Dp K H x d ∧ d.canLay0 = true ∧ d.depth ≤ n
  | _, _, _, .non => ⟨.non, by simp [PyData.canLay0], by simp [PyData.depth]⟩
  | _, _, _, .bl b => ⟨.bl b, by simp [PyData.canLay0], by simp [PyData.depth]⟩
  | _, _, _, .int i => ⟨.int i, by simp [PyData.canLay0], by simp [PyData.depth]⟩
  | _, _, _, .str h => ⟨.str _, by simpa [PyData.canLay0] using h.2, by simp [PyData.depth]⟩
  | _, _, _, .lst e l h => by
    have k := tds_dp (K := K) h
    exact ⟨.lst (SqL.of e) k.1, by simpa [PyData.canLay0] using k.2.1, by simpa [PyData.depth] using k.2.2⟩
  | _, _, _, .tup e l h => by
    have k := tds_dp (K := K) h
    exact ⟨.tup (SqT.of e) k.1, by simpa [PyData.canLay0] using k.2.1, by simpa [PyData.depth] using k.2.2⟩
theorem tds_dp {K : PySem.W.Frag} : ∀ {n : Nat} {xs : List V} {ds : List PyData}, Tds H n xs ds → DpAll K H xs ds ∧ PyData.canLayAll0 ds = true ∧ PyData.depthAll ds ≤ n
  | _, _, _, .nil => ⟨.nil, by simp [PyData.canLayAll0], by simp [PyData.depthAll]⟩
  | _, _, _, .cons h t => by
    have k := td_dp (K := K) h
    have j := tds_dp (K := K) t
    refine ⟨.cons k.1 j.1, by simp [PyData.canLayAll0, k.2.1, j.2.1], ?_⟩
    simp only [PyData.depthAll]
    exact Nat.max_le.mpr ⟨k.2.2, j.2.2⟩
end
theorem td_shaped {K : PySem.W.Frag} {n : Nat} {x : V} {d : PyData} (h : Td H n x d) (l : n ≤ 64) : SeqAt.shaped d = true := by
  have k := td_dp (K := K) h
  exact Fine.shaped (n := n) ⟨k.2.1, k.2.2⟩ l
theorem tds_len : ∀ {n : Nat} {xs : List V} {ds : List PyData}, Tds H n xs ds → xs.length = ds.length
  | _, _, _, .nil => rfl
  | _, _, _, .cons _ t => congrArg (· + 1) (tds_len t)
theorem tds_get : ∀ {n : Nat} {xs : List V} {ds : List PyData} {i : Nat} {x : V}, Tds H n xs ds → xs[i]? = some x → ∃ d, ds[i]? = some d ∧ Td H n x d
  | _, _, _, _, _, .nil, e => by simp at e
  | _, _, _, 0, _, .cons h t, e => by
    simp at e
    subst e
    exact ⟨_, rfl, h⟩
  | _, _, _, i + 1, _, .cons h t, e => by
    obtain ⟨d, e1, e2⟩ := tds_get (i := i) t (by simpa using e)
    exact ⟨d, by simpa using e1, e2⟩
theorem tds_app : ∀ {n : Nat} {xs ys : List V} {ds es : List PyData}, Tds H n xs ds → Tds H n ys es → Tds H n (xs ++ ys) (ds ++ es)
  | _, _, _, _, _, .nil, k => k
  | _, _, _, _, _, .cons h t, k => .cons h (tds_app t k)
theorem tds_take : ∀ {n : Nat} {xs : List V} {ds : List PyData} (i : Nat), Tds H n xs ds → Tds H n (xs.take i) (ds.take i)
  | _, _, _, 0, _ => .nil
  | _, _, _, i + 1, .nil => .nil
  | _, _, _, i + 1, .cons h t => .cons h (tds_take i t)
theorem tds_drop : ∀ {n : Nat} {xs : List V} {ds : List PyData} (i : Nat), Tds H n xs ds → Tds H n (xs.drop i) (ds.drop i)
  | _, _, _, 0, t => t
  | _, _, _, i + 1, .nil => .nil
  | _, _, _, i + 1, .cons _ t => tds_drop i t
theorem tds_rev : ∀ {n : Nat} {xs : List V} {ds : List PyData}, Tds H n xs ds → Tds H n xs.reverse ds.reverse
  | _, _, _, .nil => .nil
  | _, _, _, .cons h t => by
    rw [List.reverse_cons, List.reverse_cons]
    exact tds_app (tds_rev t) (.cons h .nil)
/-- some data for each -/
theorem tds_ex : ∀ {n : Nat} {xs : List V}, (∀ x ∈ xs, ∃ d, Td H n x d) → ∃ ds, Tds H n xs ds
  | _, [], _ => ⟨[], .nil⟩
  | n, x :: xs, h => by
    obtain ⟨d, k⟩ := h x (List.mem_cons_self ..)
    obtain ⟨ds, j⟩ := tds_ex (n := n) (xs := xs) fun y hy => h y (List.mem_cons_of_mem _ hy)
    exact ⟨d :: ds, .cons k j⟩
theorem tds_mem : ∀ {n : Nat} {xs : List V} {ds : List PyData} {x : V}, Tds H n xs ds → x ∈ xs → ∃ d, d ∈ ds ∧ Td H n x d
  | _, _, _, _, .nil, e => by cases e
  | _, _, _, _, .cons h t, e => by
    rcases List.mem_cons.mp e with rfl | e
    · exact ⟨_, List.mem_cons_self .., h⟩
    · obtain ⟨d, e1, e2⟩ := tds_mem t e
      exact ⟨d, List.mem_cons_of_mem _ e1, e2⟩
theorem td_ty {K : PySem.W.Frag} : ∀ {n : Nat} {x : V} {d : PyData}, Td H n x d → TyX K H x (.type (match d with | .none => "NoneType" | .bool _ => "bool" | .int _ => "int" | .str _ => "str" | .list _ => "list" | .tuple _ => "tuple" | .dict _ => "dict"))
  | _, _, _, .non => .base .non
  | _, _, _, .bl b => .base (.bl b)
  | _, _, _, .int i => .base (.int i)
  | _, _, _, .str (z := z) h => .base (.str z)
  | _, _, _, .lst e l h => .base (.lst e)
  | _, _, _, .tup e l h => .base (.tup e)
theorem td_known {K : PySem.W.Frag} : ∀ {n : Nat} {x : V} {d : PyData}, Td H n x d → Known K H x
  | _, _, _, .non => known_non
  | _, _, _, .bl b => known_bl b
  | _, _, _, .int i => known_int i
  | _, _, _, .str h => known_str h.1 h.2
  | _, _, _, .lst e l h => known_lst e
  | _, _, _, .tup e l h => known_tup e
end
/-- in, a tuple of data -/
def rInT (K : PySem.W.Frag) : R2 := fun x y H Q => ∃ d ds, Dp K H x d ∧ Dp K H y (.tuple ds) ∧ SeqAt.shaped d = true ∧ SeqAt.shaped (.tuple ds) = true ∧ Q (.bl (ds.any fun z => PyData.eqv z d)) H
theorem op_inT {X : Cx} (hu : X.A.units + 65 < cLine) : OpR X (compareOp .In) (rInT X.K) := by
  intro pins s σ H x y v u Q I rx ry h
  obtain ⟨d, ds, hd, he, sd, se, q⟩ := h
  obtain ⟨as, r1⟩ := Dp.reads I d x v hd rx
  obtain ⟨bs, r2⟩ := Dp.reads I (.tuple ds) y u he ry
  have l1 := SeqAt.canLay_of_shaped se
  have d1 := SeqAt.depth_of_shaped sd
  refine SeqAt.in_tuple_reads r2 r1 (by simpa [PyData.canLay0] using l1) (SeqAt.canLay_of_shaped sd) ?_ ⟨.bl _, H, I, rfl, q⟩
  have := Nat.min_le_right (PyData.depthAll ds) d.depth
  omega
/-! ### rows of names -/
def GoodRow (row : List Str) : Prop := row.Nodup ∧ (∀ z ∈ row, isNm z = true ∧ Word z) ∧ row.length ≤ 8
def RowsAt (H : Hp) (r : Addr) (rows : List (List Str)) : Prop := ∃ as : List Addr, H r = some (.tup (as.map V.ref)) ∧ as.length = rows.length ∧ ∀ (k : Nat) (a : Addr) (row : List Str), as[k]? = some a → rows[k]? = some row → Rd H a (.tup (row.map V.str))
theorem rows_same {H H' : Hp} {r : Addr} {rows : List (List Str)} (s : Same H H') (h : RowsAt H r rows) : RowsAt H' r rows :=
  let ⟨as, h1, h2, h3⟩ := h; ⟨as, s _ _ h1, h2, fun k a row e1 e2 => rd_same s (h3 k a row e1 e2)⟩
theorem strsOf_map : ∀ l : List Str, strsOf (l.map V.str) = l
  | [] => rfl
  | x :: l => by
    show x :: strsOf (l.map V.str) = x :: l
    rw [strsOf_map l]
theorem seen_nodup : ∀ (l acc : List Str), (acc ++ l).Nodup → l.foldl grow acc = acc ++ l
  | [], acc, _ => by simp
  | x :: l, acc, h => by
    have hx : acc.any (· == x) = false := by
      cases e : acc.any (· == x) with
      | false => rfl
      | true =>
        obtain ⟨y, hy, ey⟩ := List.any_eq_true.mp e
        have ey2 : y = x := eq_of_beq ey
        subst ey2
        have h2 := (List.nodup_append.mp h).2.2 y hy y (List.mem_cons_self ..)
        exact absurd rfl h2
    have g : grow acc x = acc ++ [x] := by
      unfold grow
      rw [hx]
      rfl
    show l.foldl grow (grow acc x) = acc ++ x :: l
    rw [g, seen_nodup l (acc ++ [x]) (by simpa using h)]
    simp
theorem good_diff {row : List Str} (h : GoodRow row) : diffV (row.map V.str) = true := by
  unfold diffV
  have h1 : (row.map V.str).all nameV = true := by
    rw [List.all_map, List.all_eq_true]
    intro z hz
    exact (h.2.1 z hz).1
  have h2 : seen row = row := by
    have := seen_nodup row [] (by simpa using h.1)
    simpa [seen] using this
  rw [h1, strsOf_map, h2]
  simp
theorem good_thing {K : PySem.W.Frag} {H : Hp} {a : Addr} {row : List Str} (h : GoodRow row) (e : Rd H a (.tup (row.map V.str))) : Thing K H (.ref a) :=
  .inl ⟨a, _, rfl, e, by rw [List.length_map]; exact Nat.le_trans h.2.2 (by decide), fun y hy => by
    obtain ⟨z, hz, rfl⟩ := List.mem_map.mp hy
    exact (h.2.1 z hz).2.item⟩
/-! ### clashes, as data -/
/-- the place of a name in a row -/
def place (row : List Str) (d : PyData) : Option Nat := match d with
  | .str x => row.findIdx? (· == x)
  | _ => none
def nmD : PyData → Bool
  | .str x => isNm x
  | _ => false
def ixD (n : Nat) : PyData → Bool
  | .int i => decide (0 ≤ i) && decide (i < n)
  | _ => false
def before (row : List Str) (a b : PyData) : Bool := match place row a, place row b with
  | some i, some j => decide (i < j)
  | _, _ => false
theorem before_str (row : List Str) (x y : Str) : before row (.str x) (.str y) = match row.findIdx? (· == x), row.findIdx? (· == y) with
  | some i, some j => decide (i < j)
  | _, _ => false := rfl
def stepD (rows : List (List Str)) : PyData → Bool
  | .tuple [a, b, .int i] => ixD rows.length (.int i) && before (rows.getD i.toNat []) a b
  | _ => false
def sndD : PyData → PyData
  | .tuple [_, b, _] => b
  | _ => .none
def fstD : PyData → PyData
  | .tuple [a, _, _] => a
  | _ => .none
def strD : PyData → Str
  | .str x => x
  | _ => Str.empty
/-- each step begins where the one ahead of it ends, the first one where the last one ends -/
def ringP (ds : List PyData) (j : Nat) : Bool := decide (strD (sndD (ds.getD (if j = 0 then ds.length - 1 else j - 1) .none)) = strD (fstD (ds.getD j .none)))
def ringD (ds : List PyData) : Bool := (List.range ds.length).all (ringP ds)
def clashD (rows : List (List Str)) : PyData → Bool
  | .tuple ds => decide (2 ≤ ds.length) && ds.all (stepD rows) && ringD ds
  | _ => false
theorem clash_tup (rows : List (List Str)) (ds : List PyData) : clashD rows (.tuple ds) = (decide (2 ≤ ds.length) && ds.all (stepD rows) && ringD ds) := rfl
/-- a step that fits is three values -/
theorem step_form {rows : List (List Str)} {H : Hp} {n : Nat} {v : V} {d : PyData} (h : stepD rows d = true) (t : Td H n v d) : ∃ b x y k, v = .ref b ∧ d = .tuple [.str x, .str y, .int k] ∧ H b = some (.tup [.str x, .str y, .int k]) := by
  cases t with
  | tup e l ts =>
    rename_i m a xs ds
    match ds, h with
    | [d1, d2, .int k], h =>
      cases ts with
      | cons k1 ts => cases ts with
        | cons k2 ts => cases ts with
          | cons k3 ts =>
            cases ts
            have hb : before (rows.getD k.toNat []) d1 d2 = true := (Bool.and_eq_true_iff.mp h).2
            cases k3
            cases k1 with
            | str w1 => cases k2 with
              | str w2 => exact ⟨_, _, _, _, rfl, rfl, e⟩
              | _ => simp [before, place] at hb
            | _ => simp [before, place] at hb
  | _ => cases h
/-- a dict comprehension over what walks -/
theorem dc_it {J : It} {n : Nat} {G : Hp → Prop} {Y : Nat → Hp → V → Hp → Prop} (w : Walk J n G Y) {g : TG} {tt : TT} {tk tv : TE} {vs : List Nat} {σ : St} {H1 : Hp} {D : Addr} {Qd : Hp → Prop} (Pv : Nat → Hp → Prop) (h0 : Pv 0 (upd H1 D (.dK []))) (hG : ∀ i H, i ≤ n → Pv i H → G H)
    (hs : ∀ i x H H', i < n → Pv i H → Y i H x H' → g x (wipe σ vs) H' fun σ2 H2 => wipe σ2 vs = wipe σ vs ∧ tt σ2 H2 fun b H3 =>
      if b = true then tk σ2 H3 fun y H4 => tv σ2 H4 fun z H5 => ∃ kvs k, y = kV k ∧ H5 D = some (.dK kvs) ∧ kvs.length < sizeLine ∧ Pv (i + 1) (upd H5 D (.dK (putK kvs k z))) else Pv (i + 1) H3) (hd : ∀ H, Pv n H → Qd H) :
    ∃ W : Nat → Nat → Hp → Prop, (∃ m, W 0 m (upd H1 D (.dK []))) ∧ ∀ i m H, W i m H →
      (J.stop i H ∧ Qd H) ∨ (J.go i H ∧ ∃ Nx : Hp → Prop, (∀ H', Nx H' → ∃ m', m' < m ∧ W (i + 1) m' H') ∧ ∀ x H', J.yld i H x H' → g x (wipe σ vs) H' fun σ2 H2 => wipe σ2 vs = wipe σ vs ∧ tt σ2 H2 fun b H3 =>
        if b = true then tk σ2 H3 fun y H4 => tv σ2 H4 fun z H5 => ∃ kvs k, y = kV k ∧ H5 D = some (.dK kvs) ∧ kvs.length < sizeLine ∧ Nx (upd H5 D (.dK (putK kvs k z))) else Nx H3) := by
  refine ⟨fun i m H => m + i = n ∧ Pv i H, ⟨n, rfl, h0⟩, fun i m H ⟨em, p⟩ => ?_⟩
  by_cases hlt : i < n
  · exact .inr ⟨w.goes i H hlt (hG i H (Nat.le_of_lt hlt) p), Pv (i + 1), fun H' p' => ⟨m - 1, by omega, by omega, p'⟩, fun x H' y => hs i x H H' hlt p (w.yields i H x H' hlt (hG i H (Nat.le_of_lt hlt) p) y)⟩
  · have e : i = n := by omega
    subst e
    exact .inl ⟨w.stops H (hG _ H (Nat.le_refl _) p), hd H p⟩
end Nb

set_option Elab.async false
set_option maxRecDepth 100000
set_option maxHeartbeats 4000000
namespace Nb
open PySem L2
theorem src_at {H : Hp} {p D : Addr} {o : HO} {b : Nat} (S : Src H p b) (n : p ≠ D) : Src (upd H D o) p b := by
  obtain ⟨c, m, r, e, k⟩ := S
  exact ⟨c, m, r, by rw [upd_ne n]; exact e, k⟩
theorem src_fresh {H : Hp} {p D : Addr} {b : Nat} (S : Src H p b) (h : H D = none) : D ≠ p := fun z => by
  obtain ⟨u, e⟩ := S.some
  rw [← z, h] at e
  cases e
/-- tuple + tuple, whichever of the two is empty -/
theorem cat_tup {K : PySem.W.Frag} {H : Hp} {a b : Addr} {xs ys : List V} {Q : VK} (ha : SqT K H a xs) (hb : H b = some (.tup ys)) (hy : ys ≠ []) (hl : xs.length + ys.length ≤ sizeLine)
    (h : ∀ p H', Same H H' → (∀ c, H c ≠ none → H' c = H c) → H' p = some (.tup (xs ++ ys)) → Q (.ref p) H') : rCatA K (.ref a) (.ref b) H Q := by
  refine ⟨a, b, xs, ys, rfl, rfl, ha, SqT.of hb, hl, fun e => ?_, fun _ e => absurd e hy, fun _ _ p hp => ?_⟩
  · subst e
    exact h b H (Same.refl H) (fun _ _ => rfl) hb
  · exact h p _ (same_new hp) (fun c hc => upd_ne (fun z => hc (z ▸ hp))) upd_same
theorem cut_mem {xs : List V} {lo hi : Option Int} {y : V} (h : y ∈ cutV xs lo hi) : y ∈ xs := List.mem_of_mem_drop (List.mem_of_mem_take h)
theorem map_item {K : PySem.W.Frag} {H : Hp} {ys : List Str} (h : ∀ z ∈ ys, Word z) : ∀ y ∈ ys.map V.str, Item K H y := fun y hy => by
  obtain ⟨z, hz, rfl⟩ := List.mem_map.mp hy
  exact (h z hz).item
/-- the law's promise -/
def spLaw (K : PySem.W.Frag) : Sp := fun vs H Q _ => ∃ (a : Addr) (ns : List Int), vs = [.ref a] ∧ SqL K H a (ns.map V.int) ∧ ns.length ≤ 63 ∧ ∀ H', Q (.bl true) H'
end Nb

set_option Elab.async false
set_option maxRecDepth 100000
set_option maxHeartbeats 4000000
/-! A tuple that tuple(..) makes, known to its object; t.index of such. -/
namespace Nb
open PySem PySem.Spec PyProof.Rows L2
/-- a tuple as it is made: no dict -/
def TupObj (o : Obj) : Prop := o.cls = .type "tuple" ∧ o.dict = none
theorem cr_tupleF {X : Cx} : CallR X (.type "tuple") (fun xs H Q => ∃ p ys, xs = [.ref p] ∧ SqL X.K H p ys ∧ ∀ l o, H l = none → TupObj o → Q (.ref l) (upd H l (.frz o (.tup ys)))) := by
  intro pins s σ H xs us Q I r h
  obtain ⟨p, ys, rfl, hq, q⟩ := h
  obtain ⟨u, rfl, rx⟩ := vals1 r
  cases rx
  obtain ⟨its, r', pl, hz⟩ := I.list hq
  have len := r'.length
  refine call_tuple_list pl.isList (fun h' kp => ?_) (by simp only [List.size_toArray]; omega)
  have I1 : Inv X pins σ H { s with heap := h' } := I.kept (t' := s.toks) kp
  have made : (h'.push { cls := .type "tuple", data := .seq its.toArray }).get? h'.objs.size = some { cls := .type "tuple", data := .seq its.toArray } := Heap.get?_push_size _ rfl
  have I2 : Inv X pins σ (upd H h'.objs.size (.frz { cls := .type "tuple", data := .seq its.toArray } (.tup ys))) { s with heap := h'.push { cls := .type "tuple", data := .seq its.toArray } } :=
    I1.laid (t' := s.toks) (fun b o e => Heap.get?_push_of_some _ e) (Nat.le_refl _) ⟨made, hz, its, r', IsTup.new _ _⟩
  exact ⟨.ref h'.objs.size, _, I2, rfl, q _ _ (I1.hok.fresh (Nat.le_refl _)) ⟨rfl, rfl⟩⟩
/-- t.index(e), t such a tuple of texts -/
def tTupIx (to : TE) (t : TA) : TE := fun σ H Q => to σ H fun x H1 => ∃ (p : Addr) (o : Obj) (ys : List Str), x = .ref p ∧ H1 p = some (.frz o (.tup (ys.map V.str))) ∧ TupObj o ∧ t σ H1 fun vs H2 =>
  ∃ (z : Str) (j : Nat), vs = [.str z] ∧ H2 p = some (.frz o (.tup (ys.map V.str))) ∧ ys[j]? = some z ∧ (∀ m, m < j → ys[m]? ≠ some z) ∧ Q (.int (j : Nat)) H2
theorem pe_tupIx {X : Cx} {o e : Expr} {to : TE} {t : TA} {apos cpos : Pos} (ho : PE X o to) (ha : PA X (e :: []) t)
    (hbase : attributeBase o "index" X.env (eval o X.env) = eval o X.env := by rfl)
    (hfew : ((backTo cpos (starEach (e :: []) X.env)).all (fun x => !x.1) && (backToKw cpos (keywordEach [] X.env)).all (fun x => x.1.isSome)
      && decide ((e :: ([] : List Expr)).length + ([] : List Keyword).length + (if ([] : List Keyword).isEmpty then 0 else 1) < 30)) = true := by rfl)
    (hline : (apos.endLine == cpos.line) = true := by rfl) (hs : starEach (e :: []) X.env = (false, eval e X.env) :: starEach [] X.env := by rfl) (hplain : (backTo cpos (starEach [] X.env)).any (·.1) = false := by rfl) :
    PE X (.Call (.Attribute o "index" apos) (e :: []) [] cpos) (tTupIx to t) := by
  refine ⟨fun pins s σ H Q I h => ?_⟩
  refine wpAny_Call_method_late hbase hfew hline rfl (thn (ho.run pins s σ H _ I h) fun v s1 ⟨x, H1, I1, r1, p, ob, ys, ex, ep, to', q1⟩ => ?_)
  subst ex
  cases r1
  obtain ⟨hget, _⟩ := (show ObjOk X.prog X.w H1 s1.heap p (.frz ob (.tup (ys.map V.str))) from I1.hok p _ ep)
  refine ⟨"tuple", "tuple.index", PySem.F.plainAttrs_tuple, PySem.F.slot_tuple_index, PySem.F.type_tuple_index, ⟨ob, hget, to'.1⟩, fun a e2 => by
    cases e2
    exact ⟨ob, hget, to'.2⟩, ?_⟩
  have hA := ha.run cpos pins s1 σ H1 _ I1 q1
  rw [hs] at hA ⊢
  refine Calls.callWith_builtin (by show (false || (backTo cpos (starEach [] X.env)).any (·.1)) = false; rw [hplain]; rfl) (Calls.evalArgs_plain ?_)
  exact thn hA fun us s2 ⟨vs, H2, I2, r2, z, j, ev, ep2, hy, hno, q⟩ => mt_tup_index pins s2 σ H2 (.ref p) vs (.ref p) us Q I2 rfl r2 ⟨p, ys, z, j, rfl, ev, .inl (.inr ⟨ob, ep2⟩), hy, hno, q⟩
end Nb

set_option Elab.async false
set_option maxRecDepth 100000
set_option maxHeartbeats 4000000
/-! t[::-1], t a tuple; tuples cut and added, whichever object comes back. -/
namespace Nb
open PySem PySem.Spec PyProof.Rows L2 HT
section
variable {prog : Program} {w : World} {A : Around} {E : Value → Shared → Prop} {s : Shared}
theorem applied_back {sl : Addr} {vl vu vs : Value} {n : Nat} {Q : Int × Int × Nat → Shared → Prop} (hs : s.heap.IsSliceOf sl vl vu vs) (pl : IsPart vl none) (pu : IsPart vu none) (ps : IsPart vs (some (-1)))
    (h : Q ((n : Int) - 1, -1, n) s) : wpAny (model prog w) A (Builtin.Slice.sliceApplied (.ref sl) (pure (n : Int))) Q E s := by
  obtain ⟨os, hos, hcs, hds⟩ := id hs
  unfold Builtin.Slice.sliceApplied Builtin.Slice.sliceFields
  refine wpAny_bind (wpAny_bind (wpAny_field hos hds (x := vl) rfl (wpAny_bind (wpAny_field hos hds (x := vu) rfl (wpAny_bind (wpAny_field hos hds (x := vs) rfl (wpAny_pure ?_)))))))
  refine wpAny_bind (slicePart_ ps ?_)
  show wpAny _ _ (if ((-1 : Int) == 0) = true then _ else _) _ _ s
  rw [if_neg (by decide)]
  refine wpAny_bind (slicePart_ pl (wpAny_bind (slicePart_ pu (wpAny_bind (wpAny_pure ?_)))))
  have e1 : Builtin.Slice.sliceAdjust none none (-1) (n : Int) = ((n : Int) - 1, -1) := by
    unfold Builtin.Slice.sliceAdjust
    simp
  have e2 : Builtin.Slice.slicePlaces ((n : Int) - 1) (-1) (-1) = n := by
    unfold Builtin.Slice.slicePlaces
    simp
    omega
  show wpAny _ _ (match Builtin.Slice.sliceAdjust none none (-1) (n : Int) with | (lo, hi) => pure (lo, (-1 : Int), Builtin.Slice.slicePlaces lo hi (-1))) _ _ s
  rw [e1]
  show wpAny _ _ (pure ((n : Int) - 1, (-1 : Int), Builtin.Slice.slicePlaces ((n : Int) - 1) (-1) (-1))) _ _ s
  rw [e2]
  exact wpAny_pure h
theorem pick_back (xs : Array Value) : ((List.range xs.size).filterMap fun (m : Nat) => xs[((xs.size : Int) - 1 + (m : Int) * -1).toNat]?).toArray = xs.toList.reverse.toArray := by
  congr 1
  apply List.ext_getElem?
  intro i
  have e : ∀ k, k ≤ xs.size → (List.range k).filterMap (fun (m : Nat) => xs[((xs.size : Int) - 1 + (m : Int) * -1).toNat]?) = (xs.toList.reverse).take k := by
    intro k
    induction k with
    | zero => intro _; rfl
    | succ k ih =>
      intro hk
      have hlt : xs.size - 1 - k < xs.size := by omega
      have ix : ((xs.size : Int) - 1 + (k : Int) * -1).toNat = xs.size - 1 - k := by omega
      rw [List.range_succ, List.filterMap_append, ih (by omega), List.take_add_one]
      congr 1
      simp only [List.filterMap_cons, List.filterMap_nil, ix]
      rw [Array.getElem?_eq_getElem hlt, List.getElem?_reverse (by simp; omega)]
      simp [hlt]
  rw [e xs.size (Nat.le_refl _), List.take_of_length_le (by simp)]
theorem getItem_back {t sl : Addr} {items : Array Value} {vl vu vs : Value} {Q : Value → Shared → Prop} (ht : IsTup s.heap t items) (hs : s.heap.IsSliceOf sl vl vu vs) (pl : IsPart vl none) (pu : IsPart vu none) (ps : IsPart vs (some (-1)))
    (h : Q (.ref s.heap.objs.size) { s with heap := s.heap.push { cls := .type "tuple", data := .seq items.toList.reverse.toArray } }) (hsz : items.size ≤ sizeLine) : wpAny (model prog w) A (getItem (.ref t) (.ref sl)) Q E s := by
  have fits : sizeOk (.seq items.toList.reverse.toArray) := by
    show items.toList.reverse.toArray.size ≤ sizeLine
    rw [List.size_toArray, List.length_reverse, Array.length_toList]
    exact hsz
  obtain ⟨os, hos, hcs, hds⟩ := id hs
  unfold getItem
  try with_reducible refine wpAny_holding ?_
  first | refine wpAny_bind (wpAny_pure ?_) | skip
  refine wpAny_bind (wpAny_sequenceKey ht.typeIs (by decide) ?_)
  refine wpAny_bind (wpAny_callSpecial?_slot (name := Str.ofString "__getitem__") ht.typeIs PyProof.Rows.slot_tuple_getitem (wpAny_call_entry PyProof.Rows.slot_tuple_getitem ht.typeIs entry_tuple_getitem ?_ (args_tuple_getitem _ _)))
  show wpAny _ _ (Builtin.Tuple.tupleItemsOf (.ref t) >>= _) _ _ s
  refine wpAny_bind (tupleItemsOf_ ht (wpAny_bind (wpAny_typeOf ⟨os, hos, hcs⟩ ?_)))
  rw [if_pos (by decide)]
  refine wpAny_bind (applied_back hs pl pu ps ?_)
  have no : ¬ ((((items.size : Int) - 1) == 0 && (-1 : Int) == 1 && items.size == items.size) = true) := by
    intro q
    rw [Bool.and_eq_true, Bool.and_eq_true] at q
    exact absurd q.1.2 (by decide)
  show wpAny _ _ (if (((items.size : Int) - 1) == 0 && (-1 : Int) == 1 && items.size == items.size) = true then _ else _) _ _ s
  rw [if_neg no, pick_back]
  first
    | exact wpAny_bind (m := Builtin.Tuple.tupleExact _) (wpAny_newObj_type (wpAny_pure ⟨_, rfl, wpAny_pure h⟩) fits)
    | exact wpAny_bind (m := Builtin.Tuple.tupleExact _) (wpAny_newObj_type (wpAny_bind (wpAny_pure (wpAny_pure ⟨_, rfl, wpAny_pure h⟩))) fits)
    | exact wpAny_bind (wpAny_bind (m := Builtin.Tuple.tupleExact _) (wpAny_newObj_type (wpAny_pure (wpAny_pure ⟨_, rfl, wpAny_pure h⟩)) fits))
    | exact wpAny_bind (wpAny_bind (m := Builtin.Tuple.tupleExact _) (wpAny_newObj_type (wpAny_pure ⟨_, rfl, wpAny_pure h⟩) fits))
end
def tRevT (K : PySem.W.Frag) (te : TE) : TE := fun σ H Q => te σ H fun x H1 => ∃ a xs, x = .ref a ∧ SqT K H1 a xs ∧ ∀ p, H1 p = none → Q (.ref p) (upd H1 p (.tup xs.reverse))
theorem pe_revT {X : Cx} {e : Expr} {te : TE} {k : Nat} {p1 p2 p3 pos : Pos} (he : PE X e te) : PE X (.Subscript e (.Slice none none (some (.UnaryOp .USub (.Constant (.int 1) k p1) p2)) p3) pos) (tRevT X.K te) := by
  refine ⟨fun pins s σ H Q I h => Subscript_ (thn (he.run pins s σ H _ I h) fun v s1 ⟨x, H1, I1, r1, q1⟩ => ?_)⟩
  obtain ⟨a, xs, rfl, hx, q⟩ := q1
  cases r1
  have back : PO X (some (.UnaryOp .USub (.Constant (.int 1) k p1) p2)) (tPart (tUn (rU fun i => .int (-i)) (tC (.int 1)))) := po_some (pe_un un_neg pe_int)
  refine wpAny_Slice (thn (po_none.run pins s1 σ H1 (fun o H2 => o = none ∧ H2 = H1) I1 ⟨rfl, rfl⟩) fun vl s2 ⟨l, H2, I2, pl, el, e2⟩ => ?_)
  subst el e2
  refine thn (po_none.run pins s2 σ H2 (fun o H3 => o = none ∧ H3 = H2) I2 ⟨rfl, rfl⟩) fun vu s3 ⟨u, H3, I3, pu, eu, e3⟩ => ?_
  subst eu e3
  refine thn (back.run pins s3 σ H3 (fun o H4 => o = some (-1) ∧ H4 = H3) I3 ⟨1, rfl, -1, rfl, rfl, rfl⟩) fun vs s4 ⟨o, H4, I4, ps, eo, e4⟩ => ?_
  subst eo e4
  have I5 : Inv X pins σ H4 { s4 with heap := s4.heap.push { cls := .type "slice", data := .fields #[vl, vu, vs] } } := I4.kept (t' := s4.toks) fun b ob q => Heap.get?_push_of_some _ q
  obtain ⟨its, r, ht, hz⟩ := I5.tuple hx
  have hlen := r.length
  show wpAny (model X.prog X.w) X.A (subscriptTail e (.Slice none none (some (.UnaryOp .USub (.Constant (.int 1) k p1) p2)) p3) (.ref a) (.ref s4.heap.objs.size)) (EP X pins σ Q) X.xe { s4 with heap := s4.heap.push { cls := .type "slice", data := .fields #[vl, vu, vs] } }
  refine tail_any (ops := [.ref a, .ref s4.heap.objs.size]) ht.typeIs (PyProof.Rows.slot_tuple_getitem.lookup) ?_ (by with_unfolding_all rfl)
  refine getItem_back ht (Heap.IsSliceOf.new _ vl vu vs) pl pu ps ?_ (by rw [List.size_toArray]; omega)
  refine ⟨.ref _, _, I5.laid (t' := s4.toks) (o := .tup xs.reverse) (fun b ob q => Heap.get?_push_of_some _ q) (Nat.le_refl _) ?_, rfl, q _ (I5.hok.fresh (Nat.le_refl _))⟩
  exact ⟨by rw [List.length_reverse]; exact hz, its.reverse, r.reverse, ⟨_, Heap.get?_push_size _ rfl, rfl, 0, by simp⟩⟩
end Nb

set_option Elab.async false
set_option maxRecDepth 100000
set_option maxHeartbeats 4000000
namespace K06
open PySem L2 Nb
def topS (i : Nat) : Stmt := PySem.Challenge.pw_nextbehind_k06_clashes_judged.main.body.getD i (.Pass ⟨0, 0, 0, 0⟩)
abbrev sSource : Stmt := topS 17
abbrev sNext : Stmt := topS 18
abbrev sPick : Stmt := topS 19
theorem scSource : FnScope ["_law_script", "_law_k", "_law_cell"] ["_law_script", "_law_k"] (defScope sSource) := ⟨rfl, rfl, rfl, by decide +kernel, rfl, by decide +kernel, by decide +kernel⟩
theorem scNext : FnScope ["_law_source_here", "_law_many", "_law_found", "_law_primes", "_law_prime"] ["_law_source_here", "_law_many"] (defScope sNext) := ⟨rfl, rfl, rfl, by decide +kernel, rfl, by decide +kernel, by decide +kernel⟩
theorem scPick : FnScope ["_law_source_here", "_law_items"] ["_law_source_here", "_law_items"] (defScope sPick) := ⟨rfl, rfl, rfl, by decide +kernel, rfl, by decide +kernel, by decide +kernel⟩
section
variable {P : Program} {w : World} {K : PySem.W.Frag} {mg : Str → Option Value} {base : Heap}
theorem ok_source {f : Addr} {fd : FuncData} (F : Fun K "_law_source" "_law_source" sSource f fd) (ml : mg "len" = none) : FnOk P w K mg base CX0 1 f fd ["_law_script", "_law_k"] (spSource K) := by
  refine F.ok scSource (fun vs H Q E h => ?_) (fun cdv A outer s H vs Q E hr h => ?_)
  · obtain ⟨a, ns, k, rfl, _⟩ := h
    rfl
  · obtain ⟨a, ns, k, rfl, hS, hlen, hk, q⟩ := h
    refine ⟨_, pss_cons (ps_set (i := 2) scSource.nd rfl (Or.inl rfl) (pe_ifExp (pt_cmpR (op_neD hr.units) (pv 0) (pe_lst pa_nil) (nomark _))
        (pe_ix ix_list (pv 0) (pe_op op_modN (pv 1) (pe_callB call_len_seq (by rfl) ml PySem.boot_len (pa_cons (pv 0) pa_nil))) (fun _ _ => rfl)) pe_int))
      (pss_one (ps_ret (pe_lst (pa_cons (pv 2) (pa_cons (pe_op op_mul pe_int (pv 1)) (pa_cons (pe_ifExp (pt_cmpR op_ge (pv 2) (pe_op op_pow pe_int pe_int) (nomark _))
        (pe_op op_fdivW (pv 2) (pe_op op_pow pe_int pe_int)) pe_int) pa_nil)))))), ?_⟩
    refine ⟨_, rfl, Nat.zero_le _, fun l hl => ?_⟩
    have s1 : Same H (upd H l (.lst [])) := same_new hl
    refine ⟨.list (ns.map PyData.int), .list [], .lst (s1.seq hS) (dp_ints ns), .lst (SqL.of upd_same) .nil, (fine_ints ns).shaped (by decide), by decide, _, rfl, ?_⟩

    rw [eqv_nil]
    cases ns with
    | nil =>
      refine iteF ?_
      refine ⟨_, rfl, _, rfl, _, _, rfl, rfl, .inl (by decide), _, rfl, _, _, rfl, rfl, ⟨by decide, by decide, by decide⟩, _, _, rfl, rfl, _, rfl, ?_⟩
      refine iteF ⟨(by show 3 ≤ sizeLine; decide), fun p hp => ?_⟩
      have s2 := s1.trans (same_new (o := .lst [.int 1, .int (3 * (k : Int)), .int 0]) hp)
      exact q _ p s2 (s1.free hp) ⟨1, 3 * (k : Int), 0, upd_same, by omega, by omega⟩
    | cons n ns =>
      refine iteT ?_
      have hl2 : ((k : Int).fmod ((((n :: ns).map V.int).length : Nat) : Int)) < (((n :: ns).map V.int).length : Nat) ∧ 0 ≤ (k : Int).fmod ((((n :: ns).map V.int).length : Nat) : Int) :=
        ⟨(fmod_pos _ (by simp; omega)).2, (fmod_pos _ (by simp; omega)).1⟩
      obtain ⟨j, hj⟩ : ∃ j : Nat, (k : Int).fmod ((((n :: ns).map V.int).length : Nat) : Int) = (j : Int) := ⟨_, (Int.toNat_of_nonneg hl2.2).symm⟩
      have hjl : j < (n :: ns).length := by
        have h1 := hl2.1
        rw [hj] at h1
        simp at h1 ⊢
        omega
      refine ⟨_, rfl, _, rfl, _, rfl, a, _, rfl, .inl (s1.seq hS), _, _, rfl, rfl, (by simp; omega), a, _, _, .int (n :: ns)[j], rfl, rfl, s1.seq hS, ?_, ?_⟩
      · rw [hj]
        refine atI_nat ?_
        rw [List.getElem?_map, List.getElem?_eq_getElem hjl]
        rfl
      · refine ⟨_, rfl, _, rfl, _, _, rfl, rfl, .inl (by decide), _, rfl, _, _, rfl, rfl, ⟨by decide, by decide, by decide⟩, _, _, rfl, rfl, _, rfl, ?_⟩
        refine ite2 (fun _ => ?_) (fun _ => ?_)
        · refine ⟨_, rfl, _, _, rfl, rfl, ⟨by decide, by decide, by decide⟩, _, _, rfl, rfl, wide_div (b := 70) (by decide) (by decide) (by decide) (by decide), (by show 3 ≤ sizeLine; decide), fun p hp => ?_⟩
          exact q _ p (s1.trans (same_new hp)) (s1.free hp) ⟨_, 3 * (k : Int), _, upd_same, by omega, by omega⟩
        · refine ⟨(by show 3 ≤ sizeLine; decide), fun p hp => ?_⟩
          exact q _ p (s1.trans (same_new hp)) (s1.free hp) ⟨_, 3 * (k : Int), _, upd_same, by omega, by omega⟩
theorem ok_next {f : Addr} {fd : FuncData} (F : Fun K "_law_next" "_law_next" sNext f fd) : FnOk P w K mg base CX0 1 f fd ["_law_source_here", "_law_many"] spNext := by
  refine F.ok scNext (fun vs H Q E h => ?_) (fun cdv A outer s H vs Q E hr h => ?_)
  · obtain ⟨p, m, b, G, rfl, _⟩ := h
    rfl
  · obtain ⟨p, m, b, G, rfl, m1, m2, ⟨c, n, r, hp, hn, hb⟩, hB, hG, hs, q⟩ := h
    refine ⟨_, pss_cons (ps_if (pt_cmpR op_gt (pe_ix ix_list (pv 0) pe_int (fun _ _ => rfl)) pe_int (nomark _))
        (pss_cons (ps_set (i := 2) scNext.nd rfl (Or.inl rfl) (pe_op op_modN (pe_ix ix_list (pv 0) pe_int (fun _ _ => rfl)) (pv 1)))
          (pss_cons (ps_asg (pe_op op_fdivN (pe_ix ix_list (pv 0) pe_int (fun _ _ => rfl)) (pv 1)) (pg_sub (pv 0) pe_int set_list)) (pss_one (ps_ret (pv 2))))) pss_nil)
      (pss_cons (ps_asg (pe_op op_add (pe_ix ix_list (pv 0) pe_int (fun _ _ => rfl)) pe_int) (pg_sub (pv 0) pe_int set_list))
      (pss_cons (ps_set (i := 3) scNext.nd rfl (Or.inl rfl) (pe_lst (pa_cons pe_int (pa_cons pe_int (pa_cons pe_int (pa_cons pe_int (pa_cons pe_int (pa_cons pe_int (pa_cons pe_int (pa_cons pe_int pa_nil))))))))))
      (pss_cons (ps_set (i := 4) scNext.nd rfl (Or.inl rfl) (pe_ix ix_list (pe_op op_cat (pv 3) (pe_lst (pa_cons pe_int (pa_cons pe_int (pa_cons pe_int pa_nil))))) (pe_op op_modN (pe_ix ix_list (pv 0) pe_int (fun _ _ => rfl)) pe_int) (fun _ _ => rfl)))
      (pss_one (ps_ret (pe_op op_modN (pe_op op_fdivN (pe_op op_modN (pe_op op_pow (pe_op op_add (pe_op op_add (pe_op op_modN (pe_ix ix_list (pv 0) pe_int (fun _ _ => rfl)) (pv 4))
        (pe_op op_mul pe_int (pe_ix ix_list (pv 0) pe_int (fun _ _ => rfl)))) pe_int) pe_int) (pv 4)) pe_int) (pv 1))))))), ?_⟩
    refine ⟨_, rfl, p, _, _, _, rfl, rfl, SqL.of hp, atI_nat (j := 2) rfl, _, _, rfl, rfl, _, rfl, ?_⟩
    refine ite2 (fun _ => ?_) (fun _ => ?_)
    · refine ⟨_, rfl, p, _, _, _, rfl, rfl, SqL.of hp, atI_nat (j := 2) rfl, _, rfl, _, _, rfl, rfl, (by omega), ?_⟩
      refine ⟨_, rfl, p, _, _, _, rfl, rfl, SqL.of hp, atI_nat (j := 2) rfl, _, rfl, _, _, rfl, rfl, ⟨by omega, by omega⟩, _, rfl, p, _, _, 2, rfl, rfl, hp, rfl, _, rfl, ?_⟩
      have f1 := fmod_pos r m1
      exact q _ _ f1.1 f1.2 (same_at hs hG) ⟨c, n, _, upd_same, hn, by omega⟩
    · refine ⟨_, rfl, p, _, _, _, rfl, rfl, SqL.of hp, atI_nat (j := 1) rfl, _, _, rfl, rfl, _, rfl, p, _, _, 1, rfl, rfl, hp, rfl, ?_⟩
      refine ⟨(by show 8 ≤ sizeLine; decide), fun l1 hl1 => ?_⟩
      have npl1 : p ≠ l1 := ne_of_none upd_same hl1
      have hp1 : (upd (upd H p (.lst [.int c, .int (n + 1), .int r])) l1 (.lst ((primes.take 8).map V.int))) p = some (.lst [.int c, .int (n + 1), .int r]) := by
        rw [upd_ne npl1]
        exact upd_same
      refine ⟨_, rfl, (by show 3 ≤ sizeLine; decide), fun l2 hl2 => ?_⟩
      have npl2 : p ≠ l2 := ne_of_none hp1 hl2
      have nl12 : l1 ≠ l2 := ne_of_none upd_same hl2
      refine ⟨l1, l2, _, _, rfl, rfl, (by rw [upd_ne nl12]; exact upd_same), upd_same, (by show 8 + 3 ≤ sizeLine; decide), fun l3 hl3 => ?_⟩
      have hp2 : ∀ o2 : HO, (upd (upd (upd H p (.lst [.int c, .int (n + 1), .int r])) l1 (.lst ((primes.take 8).map V.int))) l2 o2) p = some (.lst [.int c, .int (n + 1), .int r]) := fun o2 => by
        rw [upd_ne npl2]
        exact hp1
      have npl3 : p ≠ l3 := ne_of_none (hp2 _) hl3
      have hp3 : ∀ o2 o3 : HO, (upd (upd (upd (upd H p (.lst [.int c, .int (n + 1), .int r])) l1 (.lst ((primes.take 8).map V.int))) l2 o2) l3 o3) p = some (.lst [.int c, .int (n + 1), .int r]) := fun o2 o3 => by
        rw [upd_ne npl3]
        exact hp2 _
      have f0 := fmod_pos (n + 1) (show (1 : Int) ≤ 11 by decide)
      obtain ⟨pr, ep, pr2, pr31⟩ := prime_at _ f0.1 f0.2
      refine ⟨_, rfl, p, _, _, _, rfl, rfl, SqL.of (hp3 _ _), atI_nat (j := 1) rfl, _, _, rfl, rfl, (by show (11 : Int) ≠ 0; decide), l3, _, _, _, rfl, rfl, SqL.of upd_same, ep, ?_⟩
      have f1 := fmod_pos c (show 1 ≤ pr by omega)
      refine ⟨_, rfl, p, _, _, _, rfl, rfl, SqL.of (hp3 _ _), atI_nat (j := 0) rfl, _, rfl, _, _, rfl, rfl, (by omega), _, rfl, p, _, _, _, rfl, rfl, SqL.of (hp3 _ _), atI_nat (j := 1) rfl, _, _, rfl, rfl, .inl (by decide), _, _, rfl, rfl,
        _, _, rfl, rfl, _, _, rfl, rfl, ⟨by decide, by decide, (by omega)⟩, _, rfl, _, _, rfl, rfl, (by omega), _, _, rfl, rfl, ⟨by decide, by decide⟩, _, rfl, _, _, rfl, rfl, (by omega), ?_⟩
      have f2 := fmod_pos ((((c.fmod pr + 7919 * (n + 1) + 1) ^ (5 : Int).toNat).fmod pr).fdiv 13) m1
      have s1 : Same G (upd H p (.lst [.int c, .int (n + 1), .int r])) := same_at hs hG
      exact q _ _ f2.1 f2.2 (((s1.trans (same_new hl1)).trans (same_new hl2)).trans (same_new hl3)) ⟨c, n + 1, r, hp3 _ _, by omega, by omega⟩
theorem ok_pick {f fN : Addr} {fd fdN : FuncData} (F : Fun K "_law_pick" "_law_pick" sPick f fd) (FN : Fun K "_law_next" "_law_next" sNext fN fdN) (bN : Binds K fdN ["_law_source_here", "_law_many"] []) (gN : mg "_law_next" = some (.ref fN)) (ml : mg "len" = none) :
    FnOk P w K mg base CX0 2 f fd ["_law_source_here", "_law_items"] spPick := by
  have GN : FnOk P w K mg base CX0 1 fN fdN ["_law_source_here", "_law_many"] spNext := ok_next FN
  refine F.ok scPick (fun vs H Q E h => ?_) (fun cdv A outer s H vs Q E hr h => ?_)
  · obtain ⟨p, l, xs, b, G, rfl, _⟩ := h
    rfl
  · obtain ⟨p, l, xs, b, G, rfl, hl, h1, h2, hS, hB, hG, hs, q⟩ := h
    refine ⟨_, pss_one (ps_ret (pe_ix ix_list (pv 1) (pe_call GN hr (by rfl) gN FN.kp bN .nil pass0 (pa_cons (pv 0) (pa_cons (pe_callB call_len_seq (by rfl) ml PySem.boot_len (pa_cons (pv 1) pa_nil)) pa_nil))) (fun _ _ => rfl))), ?_⟩
    refine ⟨_, rfl, _, rfl, _, rfl, l, xs, rfl, .inl (SqL.of (hs _ _ hl)), p, _, b, G, rfl, (by omega), (by omega), hS, hB, hG, hs, fun H1 k k0 k1 s1 S1 => ?_⟩
    obtain ⟨j, rfl⟩ : ∃ j : Nat, k = (j : Int) := ⟨_, (Int.toNat_of_nonneg k0).symm⟩
    have hj : j < xs.length := by omega
    exact ⟨l, _, _, xs[j], rfl, rfl, SqL.of (s1 _ _ hl), atI_nat (List.getElem?_eq_getElem hj), q H1 _ (List.getElem_mem hj) s1 S1⟩
end
end K06

set_option Elab.async false
set_option maxRecDepth 100000
set_option maxHeartbeats 4000000
namespace K06
open PySem L2 Nb
def topT (i : Nat) : Stmt := PySem.Challenge.pw_nextbehind_k06_clashes_judged.main.body.getD i (.Pass ⟨0, 0, 0, 0⟩)
abbrev sName : Stmt := topT 5
abbrev sNames : Stmt := topT 6
abbrev sDiff : Stmt := topT 7
theorem scName : FnScope ["thing", "letter"] ["thing"] (defScope sName) := ⟨rfl, rfl, rfl, by decide +kernel, rfl, by decide +kernel, by decide +kernel⟩
theorem scNames : FnScope ["thing", "item"] ["thing"] (defScope sNames) := ⟨rfl, rfl, rfl, by decide +kernel, rfl, by decide +kernel, by decide +kernel⟩
theorem scDiff : FnScope ["thing"] ["thing"] (defScope sDiff) := ⟨rfl, rfl, rfl, by decide +kernel, rfl, by decide +kernel, by decide +kernel⟩
section
variable {P : Program} {w : World} {K : PySem.W.Frag} {mg : Str → Option Value} {base : Heap}
theorem ok_name {f : Addr} {fd : FuncData} (F : Fun K "is_name" "is_name" sName f fd) (T : NamesTxt mg) {t8 : Tok} (m8 : mg "_LONGEST_NAME" = some (.int 8 t8)) : FnOk P w K mg base CX0 1 f fd ["thing"] (spName K) := by
  refine F.ok scName (fun vs H Q E h => ?_) (fun cdv A outer s H vs Q E hr h => ?_)
  · obtain ⟨x, rfl, _⟩ := h
    rfl
  · obtain ⟨x, rfl, hx, q⟩ := h
    refine ⟨_, pss_cons (ps_if (PW.pt (pw_or (pt_not (pt_val (pe_callB call_isi (by rfl) T.isi (by decide +kernel) (pa_cons (pv 0) (pa_cons (pe_bltn (v := .ty "str") (by rfl) T.str (by decide +kernel) rfl) pa_nil)))))
        (pw_or1 (pt_not (pt_chain op_le op_le pe_int (pe_callB call_len_str (by rfl) T.len PySem.boot_len (pa_cons (pv 0) pa_nil)) (pe_glob (v := .int 8) (by rfl) m8 ⟨_, rfl⟩)))))) (pss_one (ps_ret pe_bl)) pss_nil)
      (pss_one (ps_ret (pe_callB (cr_all rfl) (by rfl) T.all (by decide +kernel) (pa_cons (pe_lc (own := [("letter", 1)]) (g := gName 1) (tt := tYes) rfl scName.nd (pi_str (pv 0))
        (blkOk_by (N := ["thing", "letter"]) (sc := defScope sName) (by decide +kernel)) (fun _ _ _ _ _ => pg_name (i := 1) scName.nd rfl (Or.inl rfl)) (fun _ _ _ _ _ => pts_nil)
        (fun _ _ _ _ _ => pe_chain op_le_str op_le_str pe_str (pv 1) pe_str)) pa_nil)))), ?_⟩
    rcases hx with ⟨z, rfl, hz, _⟩ | ⟨hno, ty, hty, hk⟩
    · refine ⟨_, rfl, _, _, .type "str", _, true, rfl, .ty _, .base (.str z), kit_ty (by decide +kernel), _, rfl, ?_⟩
      refine iteF ⟨_, rfl, z, rfl, Nat.le_of_lt (small1000 hz), ?_⟩
      refine ⟨_, _, rfl, rfl, _, rfl, ?_⟩
      have big : ∀ b : Bool, isNm z = ((decide ((1 : Int) ≤ (z.length : Int)) && decide ((z.length : Int) ≤ 8)) && z.cps.toList.all letterOk) := fun _ => rfl
      by_cases h1 : (1 : Int) ≤ (z.length : Int)
      · rw [decide_eq_true h1]
        refine iteT ?_
        refine ⟨_, _, rfl, rfl, _, rfl, ?_⟩
        by_cases h8 : (z.length : Int) ≤ 8
        · rw [decide_eq_true h8]
          refine iteF ?_
          refine ⟨_, rfl, z, rfl, fun D hD => ?_⟩
          refine lc_str (x := z) (fun i H' => Same H H' ∧ H' D = some (.lst (((z.cps.toList.take i).map letterOk).map V.bl))) ⟨same_new hD, upd_same⟩ (fun i c H' hc ⟨s1, eD⟩ => ?_) (fun H' ⟨s1, eD⟩ => ?_)
          · refine ⟨rfl, ?_⟩
            have hil : i < z.cps.toList.length := (List.getElem?_eq_some_iff.mp hc).1
            have hzl : z.cps.toList.length = z.length := Array.length_toList
            have next : (((z.cps.toList.take i).map letterOk).map V.bl) ++ [V.bl (letterOk c)] = (((z.cps.toList.take (i + 1)).map letterOk).map V.bl) := by
              rw [List.take_add_one, hc]
              simp
            have sm : (((z.cps.toList.take i).map letterOk).map V.bl).length < sizeLine := by
              rw [List.length_map, List.length_map, List.length_take]
              exact Nat.lt_of_le_of_lt (Nat.min_le_left _ _) (small1000 (by omega))
            refine ⟨_, rfl, _, _, rfl, rfl, _, rfl, ?_⟩
            by_cases ha : [c] < lowA
            · rw [decide_eq_true (show ((⟨#[c]⟩ : Str).cps.toList < ("a" : Str).cps.toList) from ha)]
              refine iteF ⟨_, eD, sm, same_at s1 hD, ?_⟩
              have e : letterOk c = false := by
                unfold letterOk
                rw [decide_eq_true ha]
                rfl
              rw [← next, e]
              exact upd_same
            · rw [decide_eq_false (show ¬ ((⟨#[c]⟩ : Str).cps.toList < ("a" : Str).cps.toList) from ha)]
              refine iteT ⟨_, _, rfl, rfl, _, eD, sm, same_at s1 hD, ?_⟩
              have e : letterOk c = !decide (lowZ < [c]) := by
                unfold letterOk
                rw [decide_eq_false ha]
                rfl
              rw [← next, e]
              exact upd_same
          · refine ⟨D, _, rfl, SqL.of eD, ?_⟩
            have e : (((z.cps.toList.take z.cps.toList.length).map letterOk).all id) = isNm z := by
              rw [List.take_length]
              unfold isNm
              rw [decide_eq_true h1, decide_eq_true h8]
              simp [List.all_map]
            rw [e]
            exact q H' s1
        · rw [decide_eq_false h8]
          refine iteT ?_
          have e : nameV (.str z) = false := by
            show isNm z = false
            unfold isNm
            rw [decide_eq_false h8]
            simp
          rw [← e]
          exact q H (Same.refl H)
      · rw [decide_eq_false h1]
        refine iteF ⟨_, rfl, ?_⟩
        refine iteT ?_
        have e : nameV (.str z) = false := by
          show isNm z = false
          unfold isNm
          rw [decide_eq_false h1]
          simp
        rw [← e]
        exact q H (Same.refl H)
    · refine ⟨_, rfl, _, _, .type ty, _, false, rfl, .ty _, hty, kit_ty hk, _, rfl, ?_⟩
      refine iteT ?_
      have e : nameV x = false := by
        cases x with
        | str z => exact absurd rfl (hno z)
        | _ => rfl
      rw [← e]
      exact q H (Same.refl H)
theorem ok_names {f fN : Addr} {fd fdN : FuncData} (F : Fun K "are_names" "are_names" sNames f fd) (T : NamesTxt mg) (FN : Fun K "is_name" "is_name" sName fN fdN) (bN : Binds K fdN ["thing"] []) (gN : mg "is_name" = some (.ref fN))
    {t8 : Tok} (m8 : mg "_LONGEST_NAME" = some (.int 8 t8)) : FnOk P w K mg base CX0 2 f fd ["thing"] (spOf K namesV) := by
  have GN : FnOk P w K mg base CX0 1 fN fdN ["thing"] (spName K) := ok_name FN T m8
  refine F.ok scNames (fun vs H Q E h => ?_) (fun cdv A outer s H vs Q E hr h => ?_)
  · obtain ⟨x, rfl, _⟩ := h
    rfl
  · obtain ⟨x, rfl, hx, q⟩ := h
    refine ⟨_, pss_one (ps_ret (pe_and (pe_callB call_isi (by rfl) T.isi (by decide +kernel) (pa_cons (pv 0) (pa_cons (pe_bltn (v := .ty "tuple") (by rfl) T.tup (by decide +kernel) rfl) pa_nil)))
      (pe_one (pe_callB (cr_all rfl) (by rfl) T.all (by decide +kernel) (pa_cons (pe_lc (own := [("item", 1)]) (g := gName 1) (tt := tYes) rfl scNames.nd (pi_tup (pv 0))
        (blkOk_by (N := ["thing", "item"]) (sc := defScope sNames) (by decide +kernel)) (fun _ _ _ _ _ => pg_name (i := 1) scNames.nd rfl (Or.inl rfl)) (fun _ _ _ _ _ => pts_nil)
        (fun _ _ _ _ _ => pe_call GN hr (by rfl) gN FN.kp bN .nil pass0 (pa_cons (pv 1) pa_nil))) pa_nil))))), ?_⟩
    rcases hx with ⟨a, xs, rfl, ha, hl, hi⟩ | ⟨ht, ty, hty, hk⟩
    · refine ⟨_, rfl, _, _, .type "tuple", _, true, rfl, .ty _, rd_ty ha, kit_ty (by decide +kernel), _, rfl, ?_⟩
      refine iteT ⟨_, rfl, a, rfl, ⟨_, (.inl ha : SqT K H a xs)⟩, fun D hD => ?_⟩
      refine lc_tup (K := K) (a := a) (xs := xs) (fun i H' => Same H H' ∧ H' D = some (.lst (((xs.take i).map nameV).map V.bl))) ⟨same_new hD, upd_same⟩ (fun i H' _ ⟨s1, _⟩ => (.inl (rd_same s1 ha))) (fun i y H' hy ⟨s1, eD⟩ => ?_) (fun H' ⟨s1, eD⟩ => ?_)
      · refine ⟨rfl, _, rfl, y, rfl, known_same s1 (hi y (List.mem_of_getElem? hy)).1, fun H2 s2 => ?_⟩
        refine ⟨_, s2 _ _ eD, ?_, same_at (s1.trans s2) hD, ?_⟩
        · rw [List.length_map, List.length_map, List.length_take]
          exact Nat.lt_of_le_of_lt (Nat.min_le_right _ _) (small1000 hl)
        · rw [upd_same, List.take_add_one, hy]
          simp
      · refine ⟨D, _, rfl, SqL.of eD, ?_⟩
        have e : ((xs.take xs.length).map nameV).all id = namesV H (.ref a) := by
          unfold namesV
          rw [tupOf_at ha, List.take_length]
          simp [List.all_map]
        rw [e]
        exact q H' s1
    · refine ⟨_, rfl, _, _, .type ty, _, false, rfl, .ty _, hty, kit_ty hk, _, rfl, ?_⟩
      refine iteF ?_
      have e : namesV H x = false := by
        unfold namesV
        rw [ht _ (Same.refl _)]
      rw [← e]
      exact q H (Same.refl H)
theorem ok_diff {f fN fA : Addr} {fd fdN fdA : FuncData} (F : Fun K "are_different_names" "are_different_names" sDiff f fd) (T : NamesTxt mg) (FN : Fun K "is_name" "is_name" sName fN fdN) (bN : Binds K fdN ["thing"] []) (gN : mg "is_name" = some (.ref fN))
    (FA : Fun K "are_names" "are_names" sNames fA fdA) (bA : Binds K fdA ["thing"] []) (gA : mg "are_names" = some (.ref fA))
    {t8 : Tok} (m8 : mg "_LONGEST_NAME" = some (.int 8 t8)) : FnOk P w K mg base CX0 3 f fd ["thing"] (spOf K diffOf) := by
  have GA : FnOk P w K mg base CX0 2 fA fdA ["thing"] (spOf K namesV) := ok_names FA T FN bN gN m8
  refine F.ok scDiff (fun vs H Q E h => ?_) (fun cdv A outer s H vs Q E hr h => ?_)
  · obtain ⟨x, rfl, _⟩ := h
    rfl
  · obtain ⟨x, rfl, hx, q⟩ := h
    refine ⟨_, pss_one (ps_ret (pe_and (pe_call GA hr (by rfl) gA FA.kp bA .nil pass0 (pa_cons (pv 0) pa_nil))
      (pe_one (pe_cmpR op_eq (pe_manyS (by rfl) T.len (by rfl) T.set (pv 0)) (pe_callB call_len_seq (by rfl) T.len PySem.boot_len (pa_cons (pv 0) pa_nil)) (nomark _))))), ?_⟩
    refine ⟨_, rfl, x, rfl, hx, fun H' s1 => ?_⟩
    refine ⟨_, rfl, ?_⟩
    rcases hx with ⟨a, xs, rfl, ha, hl, hi⟩ | ⟨ht, ty, hty, hk⟩
    · have e1 : namesV H (.ref a) = xs.all nameV := by
        unfold namesV
        rw [tupOf_at ha]
      have e2 : diffOf H (.ref a) = diffV xs := by
        unfold diffOf
        rw [tupOf_at ha]
      rw [e1]
      by_cases hn : xs.all nameV = true
      · rw [hn]
        refine iteT ⟨_, rfl, a, strsOf xs, rfl, ?_, ?_, _, rfl, a, xs, rfl, .inr ((.inl (rd_same s1 ha))), rfl, ?_⟩
        · rw [← strs_map hn]
          exact (.inl (rd_same s1 ha))
        · have : (strsOf xs).length ≤ xs.length := List.length_filterMap_le ..
          omega
        · have e3 : decide (V.int ((seen (strsOf xs)).length : Nat) = V.int (xs.length : Nat)) = diffOf H (.ref a) := by
            rw [e2]
            unfold diffV
            rw [hn, Bool.true_and, Bool.eq_iff_iff]
            simp
          show Q (.bl (decide (V.int ((seen (strsOf xs)).length : Nat) = V.int (xs.length : Nat)))) H'
          rw [e3]
          exact q H' s1
      · have hf : xs.all nameV = false := by simpa using hn
        rw [hf]
        refine iteF ?_
        have e3 : diffOf H (.ref a) = false := by
          rw [e2]
          unfold diffV
          rw [hf]
          rfl
        rw [← e3]
        exact q H' s1
    · have e1 : namesV H x = false := by
        unfold namesV
        rw [ht _ (Same.refl _)]
      have e2 : diffOf H x = false := by
        unfold diffOf
        rw [ht _ (Same.refl _)]
      rw [e1]
      refine iteF ?_
      rw [← e2]
      exact q H' s1
end
end K06

set_option Elab.async false
set_option maxRecDepth 100000
set_option maxHeartbeats 4000000
namespace Nb
open PySem L2
/-- a row's dict: each name with its place -/
def kvFrom : Nat → List Str → List (Key × V)
  | _, [] => []
  | k, x :: r => (Sum.inr x, V.int (k : Nat)) :: kvFrom (k + 1) r
theorem kvFrom_len : ∀ (k : Nat) (l : List Str), (kvFrom k l).length = l.length
  | _, [] => rfl
  | k, _ :: r => congrArg (· + 1) (kvFrom_len (k + 1) r)
theorem kvFrom_snoc : ∀ (k : Nat) (l : List Str) (x : Str), kvFrom k (l ++ [x]) = kvFrom k l ++ [(Sum.inr x, V.int ((k + l.length : Nat) : Int))]
  | k, [], x => rfl
  | k, y :: r, x => by
    show _ :: kvFrom (k + 1) (r ++ [x]) = _
    rw [kvFrom_snoc (k + 1) r x]
    show _ :: (kvFrom (k + 1) r ++ _) = (_ :: kvFrom (k + 1) r) ++ _
    rw [show k + 1 + r.length = k + (y :: r).length by simp; omega]
    rfl
theorem valV_cons (p : Key × V) (l : List (Key × V)) (k : Key) : valV (p :: l) k = if p.1 = k then some p.2 else valV l k := by
  unfold valV
  rw [List.find?_cons]
  by_cases h : p.1 = k
  · rw [if_pos h]
    simp [h]
  · rw [if_neg h]
    simp [h]
theorem kv_val (x : Str) : ∀ (k : Nat) (l : List Str), valV (kvFrom k l) (Sum.inr x) = (l.findIdx? (· == x)).map fun i => V.int ((k + i : Nat) : Int)
  | k, [] => rfl
  | k, y :: r => by
    show valV ((Sum.inr y, V.int (k : Nat)) :: kvFrom (k + 1) r) (Sum.inr x) = _
    rw [valV_cons, List.findIdx?_cons]
    by_cases h : y = x
    · subst h
      rw [if_pos rfl]
      simp
    · rw [if_neg (fun e => h (Sum.inr.inj e)), kv_val x (k + 1) r]
      have e : (y == x) = false := beq_eq_false_iff_ne.mpr h
      rw [e]
      simp only [Bool.false_eq_true, if_false]
      cases r.findIdx? (· == x) with
      | none => rfl
      | some i =>
        show some (V.int ((k + 1 + i : Nat) : Int)) = some (V.int ((k + (i + 1) : Nat) : Int))
        rw [show k + 1 + i = k + (i + 1) by omega]
def SpotsAt (H : Hp) (sp : Addr) (rows : List (List Str)) : Prop := ∃ ds : List Addr, H sp = some (.lst (ds.map V.ref)) ∧ ds.length = rows.length ∧ ∀ (k : Nat) (a : Addr) (row : List Str), ds[k]? = some a → rows[k]? = some row → H a = some (.dK (kvFrom 0 row))
theorem spots_same {H H' : Hp} {r : Addr} {rows : List (List Str)} (s : Same H H') (h : SpotsAt H r rows) : SpotsAt H' r rows :=
  let ⟨as, h1, h2, h3⟩ := h; ⟨as, s _ _ h1, h2, fun k a row e1 e2 => s _ _ (h3 k a row e1 e2)⟩
theorem find_mem {row : List Str} {x : Str} {i : Nat} (h : row.findIdx? (· == x) = some i) : x ∈ row := by
  obtain ⟨h1, h2, _⟩ := List.findIdx?_eq_some_iff_getElem.mp h
  have e : row[i] = x := eq_of_beq h2
  rw [← e]
  exact List.getElem_mem h1
/-- a value that may be a clash: data, or an empty dict -/
def Cl (H : Hp) (x : V) (d : PyData) : Prop := Td H 8 x d ∨ d = .dict [] ∧ ∃ a, x = .ref a ∧ H a = some (.dK [])
theorem cl_same {H H' : Hp} (s : Same H H') {x : V} {d : PyData} (h : Cl H x d) : Cl H' x d := by
  rcases h with h | ⟨h1, a, h2, h3⟩
  · exact .inl (td_same s h)
  · exact .inr ⟨h1, a, h2, s _ _ h3⟩
def spCheck : Sp := fun vs H Q _ => ∃ (r : Addr) (rows : List (List Str)), vs = [.ref r] ∧ RowsAt H r rows ∧ (∀ row ∈ rows, GoodRow row) ∧ rows.length ≤ 100 ∧ ∀ H', Same H H' → Q .non H'
def spIndex : Sp := fun vs H Q _ => ∃ (x : V) (n : Nat) (d : PyData), vs = [x, .int n] ∧ Td H 7 x d ∧ Q (.bl (ixD n d)) H
def spStep : Sp := fun vs H Q _ => ∃ (sp : Addr) (x : V) (d : PyData) (rows : List (List Str)), vs = [.ref sp, x] ∧ SpotsAt H sp rows ∧ (∀ row ∈ rows, GoodRow row) ∧ Td H 7 x d ∧ ∀ H', Same H H' → Q (.bl (stepD rows d)) H'
def spClash : Sp := fun vs H Q _ => ∃ (r : Addr) (x : V) (d : PyData) (rows : List (List Str)), vs = [.ref r, x] ∧ RowsAt H r rows ∧ (∀ row ∈ rows, GoodRow row) ∧ rows.length ≤ 100 ∧ Cl H x d ∧ ∀ H', Same H H' → Q (.bl (clashD rows d)) H'
end Nb
namespace K06
open PySem L2 Nb
abbrev sClash : Stmt := topT 13
abbrev sCheck : Stmt := topT 14
abbrev sStep : Stmt := topT 15
abbrev sIndex : Stmt := topT 9
def scOut : Scope := match (defBody sClash).getD 3 (.Pass ⟨0, 0, 0, 0⟩) with
  | .Assign _ (.ListComp _ _ sc _) _ => sc
  | _ => { kind := .function, names := [], isGenerator := false, isCoroutine := false }
theorem scClash : FnScope ["tuples", "thing", "spots", "row", "name", "at", "step"] ["tuples", "thing"] (defScope sClash) := ⟨rfl, rfl, rfl, by decide +kernel, rfl, by decide +kernel, by decide +kernel⟩
theorem scCheck : FnScope ["tuples", "index", "row"] ["tuples"] (defScope sCheck) := ⟨rfl, rfl, rfl, by decide +kernel, rfl, by decide +kernel, by decide +kernel⟩
theorem scStep : FnScope ["spots", "thing", "one", "other", "index", "spot"] ["spots", "thing"] (defScope sStep) := ⟨rfl, rfl, rfl, by decide +kernel, rfl, by decide +kernel, by decide +kernel⟩
theorem scIndex : FnScope ["thing", "many"] ["thing", "many"] (defScope sIndex) := ⟨rfl, rfl, rfl, by decide +kernel, rfl, by decide +kernel, by decide +kernel⟩
structure Txt (mg : Str → Option Value) : Prop where
  names : NamesTxt mg
  len : mg "len" = none
  isinstance : mg "isinstance" = none
  tuple : mg "tuple" = none
  int : mg "int" = none
  bool : mg "bool" = none
  all : mg "all" = none
  enumerate : mg "enumerate" = none
  range : mg "range" = none
  repr : mg "repr" = none
  list : mg "list" = none
  max : mg "max" = none
  min : mg "min" = none
section
variable {P : Program} {w : World} {K : PySem.W.Frag} {mg : Str → Option Value} {base : Heap}
theorem ok_check {f fare_different_names : Addr} {fd fdD : FuncData} (F : Fun K "_check_tuples" "_check_tuples" sCheck f fd) (T : Txt mg) (Fare_different_names : Fun K "are_different_names" "are_different_names" sDiff fare_different_names fdD)
    (bare_different_names : Binds K fdD ["thing"] []) (gare_different_names : mg "are_different_names" = some (.ref fare_different_names)) (Gare_different_names : FnOk P w K mg base CX0 3 fare_different_names fdD ["thing"] (spOf K diffOf)) :
    FnOk P w K mg base CX0 4 f fd ["tuples"] spCheck := by
  refine F.ok scCheck (fun vs H Q E h => ?_) (fun cdv A outer s H vs Q E hr h => ?_)
  · obtain ⟨r, rows, rfl, _⟩ := h
    rfl
  · obtain ⟨r, rows, rfl, hR, hg, hl, q⟩ := h
    refine ⟨_, pss_one (ps_for PassesOwn.never rfl (pi_enumT (by rfl) T.enumerate (pa_cons (pv 0) pa_nil)) (pg_tup rfl (pgs_cons (pg_name (i := 1) scCheck.nd rfl (Or.inl rfl)) (pgs_cons (pg_name (i := 2) scCheck.nd rfl (Or.inl rfl)) pgs_nil))) (pss_one (ps_if (pt_not (pt_val (pe_call Gare_different_names hr (by rfl) gare_different_names Fare_different_names.kp bare_different_names .nil pass0 (pa_cons (pv 2) pa_nil)))) (pss_one ps_never) pss_nil))), ?_⟩
    obtain ⟨as, h1, h2, h3⟩ := id hR
    refine ⟨_, rfl, r, _, rfl, SqT.of h1, for_it (walk_enumT (K := K) (a := r) (xs := as.map V.ref)) (fun i σ H' => ∃ v1 v2, σ = [some (.ref r), v1, v2] ∧ Same H H')
      ⟨_, _, rfl, Same.refl _⟩ (fun i σ H' _ ⟨_, _, _, s1⟩ => SqT.of (s1 _ _ h1)) ?_ ?_⟩
    · rintro i x σ H1 H2 hi ⟨v1, v2, rfl, s1⟩ ⟨t, x1, x2, rfl, new, rfl, e1, e2⟩
      have ex1 : x1 = .int (i : Nat) := (Option.some.inj e1).symm
      subst ex1
      have e2 : (as.map V.ref)[i]? = some x2 := e2
      rw [List.getElem?_map] at e2
      obtain ⟨a, ea, rfl⟩ : ∃ a, as[i]? = some a ∧ x2 = .ref a := by
        cases e : as[i]? with
        | none =>
          rw [e] at e2
          cases e2
        | some a =>
          rw [e] at e2
          exact ⟨a, rfl, (Option.some.inj e2).symm⟩
      have hil : i < rows.length := by
        rw [← h2]
        exact (List.getElem?_eq_some_iff.mp ea).1
      have er : rows[i]? = some rows[i] := List.getElem?_eq_getElem hil
      have gr := hg rows[i] (List.getElem_mem hil)
      have s2 : Same H (upd H1 t (.tup [.int (i : Nat), .ref a])) := s1.trans (same_new new)
      have ha := rd_same s2 (h3 i a rows[i] ea er)
      refine ⟨t, [.int (i : Nat), .ref a], rfl, .inl (.inl upd_same), rfl, .int (i : Nat), [.ref a], rfl, .ref a, [], rfl, rfl, ?_⟩
      refine ⟨_, rfl, .ref a, rfl, good_thing gr ha, fun H3 s3 => ⟨_, rfl, ?_⟩⟩
      have e3 : diffOf (upd H1 t (.tup [.int (i : Nat), .ref a])) (.ref a) = true := by
        unfold diffOf
        rw [tupOf_at ha]
        exact good_diff gr
      rw [e3]
      refine iteF ?_
      exact ⟨_, _, rfl, s2.trans s3⟩
    · rintro σ H' ⟨v1, v2, rfl, s1⟩
      exact q H' s1
theorem ok_index {f : Addr} {fd : FuncData} (F : Fun K "is_index" "is_index" sIndex f fd) (T : Txt mg) : FnOk P w K mg base CX0 1 f fd ["thing", "many"] spIndex := by
  refine F.ok scIndex (fun vs H Q E h => ?_) (fun cdv A outer s H vs Q E hr h => ?_)
  · obtain ⟨x, n, d, rfl, _⟩ := h
    rfl
  · obtain ⟨x, n, d, rfl, hT, q⟩ := h
    refine ⟨_, pss_one (ps_ret (pe_and (pe_callB call_isi (by rfl) T.isinstance (by decide +kernel) (pa_cons (pv 0) (pa_cons (pe_bltn (v := .ty "int") (by rfl) T.int (by decide +kernel) rfl) pa_nil))) (pe_and (pe_not (pe_callB call_isi (by rfl) T.isinstance (by decide +kernel) (pa_cons (pv 0) (pa_cons (pe_bltn (v := .ty "bool") (by rfl) T.bool (by decide +kernel) rfl) pa_nil)))) (pe_one (pe_chain op_le op_lt pe_int (pv 0) (pv 1)))))), ?_⟩
    cases hT with
    | int i =>
      refine ⟨_, rfl, _, _, .type "int", _, true, rfl, .ty _, .base (.int i), kit_ty (by decide +kernel), _, rfl, ?_⟩
      refine iteT ⟨_, rfl, _, _, .type "int", _, false, rfl, .ty _, .base (.int i), kit_ty (by decide +kernel), _, rfl, _, rfl, ?_⟩
      refine iteT ⟨_, rfl, _, _, rfl, rfl, _, rfl, ?_⟩
      by_cases h0 : 0 ≤ i
      · rw [decide_eq_true h0]
        refine iteT ⟨_, rfl, _, _, rfl, rfl, ?_⟩
        have e : ixD n (.int i) = decide (i < n) := by
          show (decide (0 ≤ i) && decide (i < n)) = decide (i < n)
          rw [decide_eq_true h0, Bool.true_and]
        show Q (.bl (decide (i < n))) H
        rw [← e]
        exact q
      · rw [decide_eq_false h0]
        refine iteF ?_
        have e : ixD n (.int i) = false := by
          show (decide (0 ≤ i) && decide (i < n)) = false
          rw [decide_eq_false h0, Bool.false_and]
        rw [← e]
        exact q
    | bl b =>
      refine ⟨_, rfl, _, _, .type "bool", _, true, rfl, .ty _, .base (.bl b), kit_ty (by decide +kernel), _, rfl, ?_⟩
      refine iteT ⟨_, rfl, _, _, .type "bool", _, true, rfl, .ty _, .base (.bl b), kit_ty (by decide +kernel), _, rfl, _, rfl, ?_⟩
      exact iteF q
    | non =>
      refine ⟨_, rfl, _, _, .type "NoneType", _, false, rfl, .ty _, .base .non, kit_ty (by decide +kernel), _, rfl, ?_⟩
      exact iteF q
    | str h =>
      refine ⟨_, rfl, _, _, .type "str", _, false, rfl, .ty _, .base (.str _), kit_ty (by decide +kernel), _, rfl, ?_⟩
      exact iteF q
    | lst e l h =>
      refine ⟨_, rfl, _, _, .type "list", _, false, rfl, .ty _, .base (.lst e), kit_ty (by decide +kernel), _, rfl, ?_⟩
      exact iteF q
    | tup e l h =>
      refine ⟨_, rfl, _, _, .type "tuple", _, false, rfl, .ty _, .base (.tup e), kit_ty (by decide +kernel), _, rfl, ?_⟩
      exact iteF q
theorem ok_step {f fis_name fis_index : Addr} {fd fdN fdI : FuncData} (F : Fun K "_is_step" "_is_step" sStep f fd) (T : Txt mg)
    (Fis_name : Fun K "is_name" "is_name" sName fis_name fdN) (bis_name : Binds K fdN ["thing"] []) (gis_name : mg "is_name" = some (.ref fis_name)) (Gis_name : FnOk P w K mg base CX0 1 fis_name fdN ["thing"] (spName K))
    (Fis_index : Fun K "is_index" "is_index" sIndex fis_index fdI) (bis_index : Binds K fdI ["thing", "many"] []) (gis_index : mg "is_index" = some (.ref fis_index)) (Gis_index : FnOk P w K mg base CX0 1 fis_index fdI ["thing", "many"] spIndex)
    {t3 : Tok} (m_STEP_PARTS : mg "_STEP_PARTS" = some (.int 3 t3)) : FnOk P w K mg base CX0 2 f fd ["spots", "thing"] spStep := by
  refine F.ok scStep (fun vs H Q E h => ?_) (fun cdv A outer s H vs Q E hr h => ?_)
  · obtain ⟨sp, x, d, rows, rfl, _⟩ := h
    rfl
  · obtain ⟨sp, x, d, rows, rfl, hS, hg, hT, q⟩ := h
    have hu := hu_of hr
    refine ⟨_, pss_cons (ps_if (PW.pt (pw_or (pt_not (pt_val (pe_callB call_isi (by rfl) T.isinstance (by decide +kernel) (pa_cons (pv 1) (pa_cons (pe_bltn (v := .ty "tuple") (by rfl) T.tuple (by decide +kernel) rfl) pa_nil))))) (pw_or1 (pt_cmpR op_ne (pe_callB call_len_seq (by rfl) T.len PySem.boot_len (pa_cons (pv 1) pa_nil)) (pe_glob (v := .int 3) (by rfl) m_STEP_PARTS ⟨_, rfl⟩) (nomark _))))) (pss_one (ps_ret pe_bl)) pss_nil)
        (pss_cons (ps_asg (pv 1) (pg_tup rfl (pgs_cons (pg_name (i := 2) scStep.nd rfl (Or.inl rfl)) (pgs_cons (pg_name (i := 3) scStep.nd rfl (Or.inl rfl)) (pgs_cons (pg_name (i := 4) scStep.nd rfl (Or.inl rfl)) pgs_nil)))))
        (pss_cons (ps_if (PW.pt (pw_or (pt_not (pt_val (pe_call Gis_name hr (by rfl) gis_name Fis_name.kp bis_name .nil pass0 (pa_cons (pv 2) pa_nil)))) (pw_or (pt_not (pt_val (pe_call Gis_name hr (by rfl) gis_name Fis_name.kp bis_name .nil pass0 (pa_cons (pv 3) pa_nil)))) (pw_or1 (pt_not (pt_val (pe_call Gis_index hr (by rfl) gis_index Fis_index.kp bis_index .nil pass0 (pa_cons (pv 4) (pa_cons (pe_callB call_len_seq (by rfl) T.len PySem.boot_len (pa_cons (pv 0) pa_nil)) pa_nil))))))))) (pss_one (ps_ret pe_bl)) pss_nil)
        (pss_cons (ps_set (i := 5) scStep.nd rfl (Or.inl rfl) (pe_ix ix_list (pv 0) (pv 4) (fun _ _ => rfl)))
        (pss_one (ps_ret (pe_and (pe_cmp (pc_din hu (pv 2) (pv 5))) (pe_and (pe_cmp (pc_din hu (pv 3) (pv 5))) (pe_one (pe_cmpR op_lt (pe_dget hu (pv 5) (pv 2) (fun _ _ => rfl)) (pe_dget hu (pv 5) (pv 3) (fun _ _ => rfl)) (nomark _)))))))))), ?_⟩
    cases hT with
    | tup e l hts =>
      rename_i a xs ds
      refine ⟨_, rfl, _, _, .type "tuple", _, true, rfl, .ty _, .base (.tup e), kit_ty (by decide +kernel), _, rfl, ?_⟩
      refine iteF ⟨_, rfl, a, xs, rfl, .inr (SqT.of e), rfl, _, rfl, ?_⟩
      by_cases h3 : xs.length = 3
      · refine iteNS (by rw [h3]; rfl) ?_
        obtain ⟨y1, y2, y3, rfl⟩ : ∃ y1 y2 y3, xs = [y1, y2, y3] := by
          match xs, h3 with
          | [y1, y2, y3], _ => exact ⟨y1, y2, y3, rfl⟩
        cases hts with
        | cons k1 hts => cases hts with
          | cons k2 hts => cases hts with
            | cons k3 hts =>
              cases hts
              rename_i d1 d2 d3
              refine ⟨_, rfl, a, [y1, y2, y3], rfl, SqT.of e, rfl, y1, [y2, y3], rfl, y2, [y3], rfl, y3, [], rfl, rfl, ?_⟩
              have bn : ∀ {m : Nat} {y : V} {c : PyData}, Td H m y c → nameV y = nmD c := fun t => by cases t <;> rfl
              have nmb1 : ∀ row ∈ rows, before row d1 d2 = true → nmD d1 = true ∧ nmD d2 = true := fun row hrow hb => by
                unfold before at hb
                unfold place at hb
                cases d1 <;> cases d2 <;> simp at hb
                rename_i z1 z2
                have g := hg row hrow
                cases e1 : row.findIdx? (· == z1) with
                | none =>
                  rw [e1] at hb
                  simp at hb
                | some i1 =>
                  cases e2 : row.findIdx? (· == z2) with
                  | none =>
                    rw [e1, e2] at hb
                    simp at hb
                  | some i2 => exact ⟨(g.2.1 z1 (find_mem e1)).1, (g.2.1 z2 (find_mem e2)).1⟩
              have no : (nmD d1 = false ∨ nmD d2 = false ∨ ixD rows.length d3 = false) → stepD rows (.tuple [d1, d2, d3]) = false := fun hn => by
                cases d3 with
                | int i =>
                  show (ixD rows.length (.int i) && before (rows.getD i.toNat []) d1 d2) = false
                  cases hx : ixD rows.length (.int i) with
                  | false => rfl
                  | true =>
                    cases hb : before (rows.getD i.toNat []) d1 d2 with
                    | false => rfl
                    | true =>
                      have hil : i.toNat < rows.length := by
                        unfold ixD at hx
                        simp at hx
                        omega
                      have hm : rows.getD i.toNat [] ∈ rows := by
                        rw [List.getD_eq_getElem?_getD, List.getElem?_eq_getElem hil]
                        exact List.getElem_mem hil
                      have hnn := nmb1 _ hm hb
                      rcases hn with z | z | z
                      · rw [hnn.1] at z
                        cases z
                      · rw [hnn.2] at z
                        cases z
                      · rw [hx] at z
                        cases z
                | _ => rfl
              refine ⟨_, rfl, y1, rfl, td_known k1, fun H1 s1 => ⟨_, rfl, ?_⟩⟩
              rw [bn k1]
              cases n1 : nmD d1 with
              | false =>
                refine iteT ?_
                rw [← no (.inl n1)]
                exact q H1 s1
              | true =>
                refine iteF ⟨_, rfl, y2, rfl, td_known (td_same s1 k2), fun H2 s2 => ⟨_, rfl, ?_⟩⟩
                rw [bn k2]
                have s12 := s1.trans s2
                cases n2 : nmD d2 with
                | false =>
                  refine iteT ?_
                  rw [← no (.inr (.inl n2))]
                  exact q H2 s12
                | true =>
                  obtain ⟨sps, p1, p2, p3⟩ := spots_same s12 hS
                  refine iteF ⟨_, rfl, _, rfl, sp, _, rfl, .inl (SqL.of p1), y3, rows.length, d3, by rw [List.length_map, p2]; rfl, td_up (td_same s12 k3), _, rfl, ?_⟩
                  cases n3 : ixD rows.length d3 with
                  | false =>
                    refine iteT ?_
                    rw [← no (.inr (.inr n3))]
                    exact q H2 s12
                  | true =>
                    refine iteF ?_
                    cases k3 with
                    | int i =>
                      have hi : 0 ≤ i ∧ i < rows.length := by
                        unfold ixD at n3
                        simpa using n3
                      obtain ⟨j, rfl⟩ : ∃ j : Nat, i = (j : Int) := ⟨_, (Int.toNat_of_nonneg hi.1).symm⟩
                      have hj : j < rows.length := by omega
                      have hjs : j < sps.length := by rw [p2]; exact hj
                      have er : rows[j]? = some rows[j] := List.getElem?_eq_getElem hj
                      have ed := p3 j sps[j] rows[j] (List.getElem?_eq_getElem hjs) er
                      refine ⟨_, rfl, _, rfl, sp, _, _, .ref sps[j], rfl, rfl, SqL.of p1, atI_nat (by rw [List.getElem?_map, List.getElem?_eq_getElem hjs]; rfl), ?_⟩
                      have key : stepD rows (.tuple [d1, d2, .int (j : Int)]) = before rows[j] d1 d2 := by
                        show (ixD rows.length (.int (j : Int)) && before (rows.getD (j : Int).toNat []) d1 d2) = _
                        rw [n3, Bool.true_and, Int.toNat_natCast, List.getD_eq_getElem?_getD, er]
                        rfl
                      cases k1 with
                      | str w1 => cases k2 with
                        | str w2 =>
                          rename_i z1 z2
                          have v1 := kv_val z1 0 rows[j]
                          have v2 := kv_val z2 0 rows[j]
                          refine ⟨_, rfl, _, rfl, sps[j], _, rfl, DGet.k (k := Sum.inr z1) ed, _, rfl, ?_⟩
                          rw [v1]
                          cases e1 : rows[j].findIdx? (· == z1) with
                          | none =>
                            refine iteF ?_
                            have e3 : before rows[j] (.str z1) (.str z2) = false := by
                              rw [before_str, e1]
                            rw [← e3, ← key]
                            exact q H2 s12
                          | some i1 =>
                            refine iteT ⟨_, rfl, _, rfl, sps[j], _, rfl, DGet.k (k := Sum.inr z2) ed, _, rfl, ?_⟩
                            rw [v2]
                            cases e2 : rows[j].findIdx? (· == z2) with
                            | none =>
                              refine iteF ?_
                              have e3 : before rows[j] (.str z1) (.str z2) = false := by
                                rw [before_str, e1, e2]
                              rw [← e3, ← key]
                              exact q H2 s12
                            | some i2 =>
                              have g1 := DGet.k (k := Sum.inr z1) ed
                              have g2 := DGet.k (k := Sum.inr z2) ed
                              rw [v1, e1] at g1
                              rw [v2, e2] at g2
                              refine iteT ⟨_, rfl, _, rfl, sps[j], _, rfl, g1, _, rfl, _, rfl, sps[j], _, rfl, g2, _, _, rfl, rfl, ?_⟩
                              have e3 : before rows[j] (.str z1) (.str z2) = decide (((0 + i1 : Nat) : Int) < ((0 + i2 : Nat) : Int)) := by
                                rw [before_str, e1, e2]
                                simp
                              show Q (.bl (decide (((0 + i1 : Nat) : Int) < ((0 + i2 : Nat) : Int)))) H2
                              rw [← e3, ← key]
                              exact q H2 s12
                        | _ => cases n2
                      | _ => cases n1
                    | _ => cases n3
      · refine (show (if (!decide (V.int (xs.length : Nat) = V.int 3)) = true then _ else _) from ?_)
        rw [decide_eq_false (fun z => h3 (by have := V.int.inj z; omega))]
        refine iteT ?_
        have e3 : stepD rows (.tuple ds) = false := by
          have hl := tds_len hts
          match ds, hl with
          | [], _ => rfl
          | [_], _ => rfl
          | [_, _], _ => rfl
          | [_, _, _], hl => exact absurd hl h3
          | _ :: _ :: c :: _ :: _, _ => cases c <;> rfl
        rw [← e3]
        exact q H (Same.refl H)
    | non =>
      refine ⟨_, rfl, _, _, .type "NoneType", _, false, rfl, .ty _, .base .non, kit_ty (by decide +kernel), _, rfl, ?_⟩
      exact iteT (q H (Same.refl H))
    | bl b =>
      refine ⟨_, rfl, _, _, .type "bool", _, false, rfl, .ty _, .base (.bl b), kit_ty (by decide +kernel), _, rfl, ?_⟩
      exact iteT (q H (Same.refl H))
    | int i =>
      refine ⟨_, rfl, _, _, .type "int", _, false, rfl, .ty _, .base (.int i), kit_ty (by decide +kernel), _, rfl, ?_⟩
      exact iteT (q H (Same.refl H))
    | str h =>
      refine ⟨_, rfl, _, _, .type "str", _, false, rfl, .ty _, .base (.str _), kit_ty (by decide +kernel), _, rfl, ?_⟩
      exact iteT (q H (Same.refl H))
    | lst e l h =>
      refine ⟨_, rfl, _, _, .type "list", _, false, rfl, .ty _, .base (.lst e), kit_ty (by decide +kernel), _, rfl, ?_⟩
      exact iteT (q H (Same.refl H))
theorem at_prev {xs : List V} {j : Nat} (h : j < xs.length) : atI xs ((j : Int) - 1) = xs[if j = 0 then xs.length - 1 else j - 1]? := by
  by_cases h0 : j = 0
  · subst h0
    rw [if_pos rfl]
    have e : ixN xs.length (((0 : Nat) : Int) - 1) = some (xs.length - 1) := by
      unfold ixN
      rw [if_neg (by omega), if_pos (by omega)]
      congr 1
      omega
    unfold atI
    rw [e]
    rfl
  · rw [if_neg h0, show ((j : Int) - 1) = ((j - 1 : Nat) : Int) by omega]
    have hj : j - 1 < xs.length := by omega
    rw [List.getElem?_eq_getElem hj]
    exact atI_nat (List.getElem?_eq_getElem hj)
theorem ok_clash {f fcheck_tuples fis_step : Addr} {fd fdC fdS : FuncData} (F : Fun K "is_clash" "is_clash" sClash f fd) (T : Txt mg)
    (Fcheck_tuples : Fun K "_check_tuples" "_check_tuples" sCheck fcheck_tuples fdC) (bcheck_tuples : Binds K fdC ["tuples"] []) (gcheck_tuples : mg "_check_tuples" = some (.ref fcheck_tuples)) (Gcheck_tuples : FnOk P w K mg base CX0 4 fcheck_tuples fdC ["tuples"] spCheck)
    (Fis_step : Fun K "_is_step" "_is_step" sStep fis_step fdS) (bis_step : Binds K fdS ["spots", "thing"] []) (gis_step : mg "_is_step" = some (.ref fis_step)) (Gis_step : FnOk P w K mg base CX0 2 fis_step fdS ["spots", "thing"] spStep)
    {t2 : Tok} (m_FEWEST_STEPS : mg "_FEWEST_STEPS" = some (.int 2 t2)) : FnOk P w K mg base CX0 5 f fd ["tuples", "thing"] spClash := by
  refine F.ok scClash (fun vs H Q E h => ?_) (fun cdv A outer s H vs Q E hr h => ?_)
  · obtain ⟨r, x, d, rows, rfl, _⟩ := h
    rfl
  · obtain ⟨r, x, d, rows, rfl, hR, hg, hl, hC, q⟩ := h
    have hr2 : Room 2 _ := hr.mono (by decide)
    refine ⟨_, pss_cons (ps_if (pt_not (pt_val (pe_callB call_isi (by rfl) T.isinstance (by decide +kernel) (pa_cons (pv 0) (pa_cons (pe_bltn (v := .ty "tuple") (by rfl) T.tuple (by decide +kernel) rfl) pa_nil))))) (pss_one ps_never) pss_nil)
        (pss_cons (ps_expr (pe_call Gcheck_tuples hr (by rfl) gcheck_tuples Fcheck_tuples.kp bcheck_tuples .nil pass0 (pa_cons (pv 0) pa_nil)))
        (pss_cons (ps_if (PW.pt (pw_or (pt_not (pt_val (pe_callB call_isi (by rfl) T.isinstance (by decide +kernel) (pa_cons (pv 1) (pa_cons (pe_bltn (v := .ty "tuple") (by rfl) T.tuple (by decide +kernel) rfl) pa_nil))))) (pw_or1 (pt_cmpR op_lt (pe_callB call_len_seq (by rfl) T.len PySem.boot_len (pa_cons (pv 1) pa_nil)) (pe_glob (v := .int 2) (by rfl) m_FEWEST_STEPS ⟨_, rfl⟩) (nomark _))))) (pss_one (ps_ret pe_bl)) pss_nil)
        (pss_cons (ps_set (i := 2) scClash.nd rfl (Or.inr rfl) (pe_lc (own := [("row", 3)]) (g := gName 3) (tt := tYes) rfl scClash.nd (pi_tup (pv 0)) (blkOk_by (N := ["tuples", "thing", "spots", "row", "name", "at", "step"]) (sc := defScope sClash) (by decide +kernel)) (fun _ _ _ _ _ => (pg_name (i := 3) scClash.nd rfl (Or.inl rfl))) (fun _ _ _ _ _ => pts_nil) (fun _ _ _ _ _ => (pe_dc (own := [("at", 5), ("name", 4)]) rfl scClash.nd (show PI _ _ _ (iEnumT K _) from (pi_enumT (by rfl) T.enumerate (pa_cons (pv 3) pa_nil))) (blkOk_by (N := ["tuples", "thing", "spots", "row", "name", "at", "step"]) (sc := scOut) (by decide +kernel)) (fun _ _ _ _ _ => (show PG _ _ (gTup K 2 (gCons (gName 5) (gCons (gName 4) gNil))) from pg_tup rfl (pgs_cons (pg_name (i := 5) scClash.nd rfl (Or.inl rfl)) (pgs_cons (pg_name (i := 4) scClash.nd rfl (Or.inl rfl)) pgs_nil)))) (fun _ _ _ _ _ => pts_nil) (fun _ _ _ _ _ => (pv 4)) (fun _ _ _ _ _ => (pv 5))))))
        (pss_cons (ps_if (pt_not (pt_val (pe_callB (cr_all rfl) (by rfl) T.all (by decide +kernel) (pa_cons (pe_lc (own := [("step", 6)]) (g := gName 6) (tt := tYes) rfl scClash.nd (pi_tup (pv 1)) (blkOk_by (N := ["tuples", "thing", "spots", "row", "name", "at", "step"]) (sc := defScope sClash) (by decide +kernel)) (fun _ _ _ _ _ => (pg_name (i := 6) scClash.nd rfl (Or.inl rfl))) (fun _ _ _ _ _ => pts_nil) (fun _ _ _ _ _ => (pe_call Gis_step hr2 (by rfl) gis_step Fis_step.kp bis_step .nil pass0 (pa_cons (pv 2) (pa_cons (pv 6) pa_nil))))) pa_nil)))) (pss_one (ps_ret pe_bl)) pss_nil)
        (pss_one (ps_ret (pe_callB (cr_all rfl) (by rfl) T.all (by decide +kernel) (pa_cons (pe_lc (own := [("at", 5)]) (g := gName 5) (tt := tYes) rfl scClash.nd (pi_range1 (by rfl) T.range (pa_cons (pe_callB call_len_seq (by rfl) T.len PySem.boot_len (pa_cons (pv 1) pa_nil)) pa_nil)) (blkOk_by (N := ["tuples", "thing", "spots", "row", "name", "at", "step"]) (sc := defScope sClash) (by decide +kernel)) (fun _ _ _ _ _ => (pg_name (i := 5) scClash.nd rfl (Or.inl rfl))) (fun _ _ _ _ _ => pts_nil) (fun _ _ _ _ _ => (pe_cmpR op_eq (pe_ix (r := rIxT K) ix_tup (pe_ix (r := rIxT K) ix_tup (pv 1) (pe_op op_sub (pv 5) pe_int) (fun _ _ => rfl)) pe_int (fun _ _ => rfl)) (pe_ix (r := rIxT K) ix_tup (pe_ix (r := rIxT K) ix_tup (pv 1) (pv 5) (fun _ _ => rfl)) pe_int (fun _ _ => rfl)) (nomark _)))) pa_nil)))))))), ?_⟩
    obtain ⟨as, h1, h2, h3⟩ := id hR
    have las : as.length ≤ 100 := by omega
    refine ⟨_, rfl, _, _, .type "tuple", _, true, rfl, .ty _, .base (.tup h1), kit_ty (by decide +kernel), _, rfl, ?_⟩
    refine iteF ⟨_, rfl, r, rows, rfl, hR, hg, hl, fun H1 s1 => ?_⟩
    have hC1 := cl_same s1 hC
    rcases hC1 with hT | ⟨rfl, a, rfl, hd⟩
    · cases hT with
      | tup e l hts =>
        rename_i a xs ds
        have ld := tds_len hts
        refine ⟨_, rfl, _, _, .type "tuple", _, true, rfl, .ty _, .base (.tup e), kit_ty (by decide +kernel), _, rfl, ?_⟩
        refine iteF ⟨_, rfl, a, xs, rfl, .inr (SqT.of e), _, _, rfl, rfl, _, rfl, ?_⟩
        refine ite2 (fun hlt => ?_) (fun hlt => ?_)
        · have h2x : (xs.length : Int) < 2 := of_decide_eq_true hlt
          have e3 : clashD rows (.tuple ds) = false := by
            rw [clash_tup, decide_eq_false (by omega)]
            rfl
          rw [← e3]
          exact q H1 s1
        · have h2x : 2 ≤ xs.length := by
            have : ¬ ((xs.length : Int) < 2) := fun z => hlt (decide_eq_true z)
            omega
          -- spots
          have h1' := s1 _ _ h1
          refine ⟨_, rfl, r, rfl, ⟨_, SqT.of h1'⟩, fun D hD => ?_⟩
          refine lc_tup (K := K) (a := r) (xs := as.map V.ref) (fun i H' => Same H1 H' ∧ ∃ ks : List Addr, H' D = some (.lst (ks.map V.ref)) ∧ ks.length = i ∧ ∀ (k : Nat) (b : Addr) (row : List Str), ks[k]? = some b → rows[k]? = some row → H' b = some (.dK (kvFrom 0 row)))
            ⟨same_new hD, [], upd_same, rfl, fun k b row e1 _ => by simp at e1⟩ (fun i H' _ ⟨s2, _⟩ => SqT.of (s2 _ _ h1')) (fun i y H' hy ⟨s2, ks, eD, lk, hk⟩ => ?_) (fun H' ⟨s2, ks, eD, lk, hk⟩ => ?_)
          · rw [List.getElem?_map] at hy
            obtain ⟨b, eb, rfl⟩ : ∃ b, as[i]? = some b ∧ y = .ref b := by
              cases e4 : as[i]? with
              | none =>
                rw [e4] at hy
                cases hy
              | some b =>
                rw [e4] at hy
                exact ⟨b, rfl, (Option.some.inj hy).symm⟩
            have hil : i < rows.length := by
              rw [← h2]
              exact (List.getElem?_eq_some_iff.mp eb).1
            have er : rows[i]? = some rows[i] := List.getElem?_eq_getElem hil
            have gr := hg rows[i] (List.getElem_mem hil)
            have hb := rd_same s2 (rd_same s1 (h3 i b rows[i] eb er))
            refine ⟨rfl, _, rfl, b, _, rfl, .inl hb, fun D2 hD2 => ?_⟩
            have n21 : D ≠ D2 := ne_of_none eD hD2
            refine dc_it (walk_enumT (K := K) (a := b) (xs := rows[i].map V.str)) (fun j H2 => Same H' H2 ∧ H2 D2 = some (.dK (kvFrom 0 (rows[i].take j)))) ⟨same_new hD2, upd_same⟩ (fun j H2 _ ⟨s3, _⟩ => .inl (rd_same s3 hb)) ?_ ?_
            · rintro j y H2 H3 hj ⟨s3, e3⟩ ⟨t, x1, x2, rfl, new, rfl, e1, e2⟩
              have ex1 : x1 = .int (j : Nat) := (Option.some.inj e1).symm
              subst ex1
              have e2 : (rows[i].map V.str)[j]? = some x2 := e2
              rw [List.getElem?_map] at e2
              obtain ⟨z, ez, rfl⟩ : ∃ z, rows[i][j]? = some z ∧ x2 = .str z := by
                cases e5 : rows[i][j]? with
                | none =>
                  rw [e5] at e2
                  cases e2
                | some z =>
                  rw [e5] at e2
                  exact ⟨z, rfl, (Option.some.inj e2).symm⟩
              have nt2 : D2 ≠ t := ne_of_none e3 new
              have e6 : (upd H2 t (.tup [.int (j : Nat), .str z])) D2 = some (.dK (kvFrom 0 (rows[i].take j))) := by
                rw [upd_ne nt2]
                exact e3
              have fresh : (rows[i].take j).findIdx? (· == z) = none := by
                rw [List.findIdx?_eq_none_iff]
                intro y hy
                refine beq_eq_false_iff_ne.mpr fun e7 => ?_
                subst e7
                obtain ⟨m, hm⟩ := List.mem_iff_getElem?.mp hy
                rw [List.getElem?_take] at hm
                by_cases hmj : m < j
                · rw [if_pos hmj] at hm
                  obtain ⟨q1, q2⟩ := List.getElem?_eq_some_iff.mp hm
                  obtain ⟨q3, q4⟩ := List.getElem?_eq_some_iff.mp ez
                  exact List.pairwise_iff_getElem.mp gr.1 m j q1 q3 hmj (q2.trans q4.symm)
                · rw [if_neg hmj] at hm
                  cases hm
              have put : putK (kvFrom 0 (rows[i].take j)) (Sum.inr z) (V.int (j : Nat)) = kvFrom 0 (rows[i].take (j + 1)) := by
                rw [putK_new _ (by rw [kv_val, fresh]; rfl), List.take_add_one, ez]
                have lj : (rows[i].take j).length = j := by
                  rw [List.length_take]
                  have := (List.getElem?_eq_some_iff.mp ez).1
                  omega
                show _ = kvFrom 0 (rows[i].take j ++ [z])
                rw [kvFrom_snoc, lj, Nat.zero_add]
              refine ⟨t, [.int (j : Nat), .str z], rfl, .inl (.inl upd_same), rfl, .int (j : Nat), [.str z], rfl, .str z, [], rfl, rfl, rfl, _, rfl, _, rfl, _, Sum.inr z, rfl, e6, ?_, ?_, ?_⟩
              · rw [kvFrom_len, List.length_take]
                have h8 := gr.2.2
                exact Nat.lt_of_le_of_lt (Nat.min_le_right _ _) (small1000 (by omega))
              · exact fun c u ec => by
                  have nc : c ≠ D2 := ne_of_none ec hD2
                  rw [upd_ne nc, upd_ne (ne_of_none (s3 _ _ ec) new)]
                  exact s3 _ _ ec
              · rw [upd_same, put]
            · rintro H2 ⟨s3, e3⟩
              refine ⟨_, s3 _ _ eD, ?_, fun c u ec => ?_, ks ++ [D2], ?_, by simp [lk], fun k b2 row e5 e6 => ?_⟩
              · rw [List.length_map, lk]
                exact small1000 (by omega)
              · have nc : c ≠ D := ne_of_none ec hD
                rw [upd_ne nc]
                exact s3 _ _ (s2 _ _ ec)
              · rw [upd_same]
                simp
              · by_cases hk2 : k < ks.length
                · have e7 : ks[k]? = some b2 := by rw [List.getElem?_append_left hk2] at e5; exact e5
                  have e8 := hk k b2 row e7 e6
                  have nb2 : b2 ≠ D := fun z => by
                    rw [z, eD] at e8
                    cases e8
                  rw [upd_ne nb2]
                  exact s3 _ _ e8
                · have e9 : k = ks.length := by
                    have := (List.getElem?_eq_some_iff.mp e5).1
                    simp at this
                    omega
                  subst e9
                  have e10 : b2 = D2 := by
                    rw [List.getElem?_append_right (Nat.le_refl _)] at e5
                    simp at e5
                    exact e5.symm
                  subst e10
                  have e11 : row = rows[i] := by
                    rw [lk, er] at e6
                    exact (Option.some.inj e6).symm
                  subst e11
                  have nb2 : b2 ≠ D := n21.symm
                  rw [upd_ne nb2, e3]
                  rw [List.length_map, List.take_length]
          · have hSp : SpotsAt H' D rows := ⟨ks, eD, by rw [lk, List.length_map, h2], hk⟩
            have e' := s2 _ _ e
            have hts' := tds_same s2 hts
            refine ⟨_, rfl, a, rfl, ⟨_, SqT.of e'⟩, fun D2 hD2 => ?_⟩
            refine lc_tup (K := K) (a := a) (xs := xs) (fun i H2 => Same H' H2 ∧ H2 D2 = some (.lst (((ds.take i).map (stepD rows)).map V.bl))) ⟨same_new hD2, upd_same⟩ (fun i H2 _ ⟨s3, _⟩ => SqT.of (s3 _ _ e')) (fun i y H2 hy ⟨s3, e3⟩ => ?_) (fun H2 ⟨s3, e3⟩ => ?_)
            · obtain ⟨dy, ey, ty⟩ := tds_get hts' hy
              refine ⟨rfl, _, rfl, _, rfl, D, y, dy, rows, rfl, spots_same s3 hSp, hg, td_same s3 ty, fun H3 s4 => ?_⟩
              refine ⟨_, s4 _ _ e3, ?_, fun c u ec => ?_, ?_⟩
              · rw [List.length_map, List.length_map, List.length_take]
                exact Nat.lt_of_le_of_lt (Nat.min_le_right _ _) (small1000 (by omega))
              · have nc : c ≠ D2 := ne_of_none ec hD2
                rw [upd_ne nc]
                exact s4 _ _ (s3 _ _ ec)
              · rw [upd_same, List.take_add_one, ey]
                simp
            · refine ⟨D2, _, rfl, SqL.of e3, _, rfl, ?_⟩
              have full : (((ds.take xs.length).map (stepD rows)).all id) = ds.all (stepD rows) := by
                rw [ld, List.take_length, List.all_map]
                rfl
              rw [full]
              have s13 := (s1.trans s2).trans s3
              cases hall : ds.all (stepD rows) with
              | false =>
                refine iteT ?_
                have e4 : clashD rows (.tuple ds) = false := by
                  rw [clash_tup, hall]
                  simp
                rw [← e4]
                exact q H2 s13
              | true =>
                refine iteF ?_
                have e2' := s3 _ _ e'
                have hts2 := tds_same s3 hts'
                have form : ∀ (j : Nat) (v : V), xs[j]? = some v → ∃ b x y k, v = .ref b ∧ ds[j]? = some (.tuple [.str x, .str y, .int k]) ∧ H2 b = some (.tup [.str x, .str y, .int k]) := fun j v hv => by
                  obtain ⟨dv, ev, tv⟩ := tds_get hts2 hv
                  have hs := List.all_eq_true.mp hall dv (List.mem_of_getElem? ev)
                  obtain ⟨b, x, y, k, r1, r2, r3⟩ := step_form hs tv
                  exact ⟨b, x, y, k, r1, r2 ▸ ev, r3⟩
                refine ⟨_, rfl, a, xs, rfl, .inr (SqT.of e2'), _, rfl, by omega, by omega, fun D3 hD3 => ?_⟩
                refine lc_range (lo := 0) (n := ((xs.length : Nat) : Int).toNat) (fun i H3 => Same H2 H3 ∧ H3 D3 = some (.lst (((List.range i).map (ringP ds)).map V.bl))) ⟨same_new hD3, upd_same⟩ (fun i H3 hi ⟨s4, e4⟩ => ?_) (fun H3 ⟨s4, e4⟩ => ?_)
                · have hi2 : i < xs.length := by simpa using hi
                  have hp : (if i = 0 then xs.length - 1 else i - 1) < xs.length := by
                    split <;> omega
                  obtain ⟨b1, x1, y1, k1, v1, w1, u1⟩ := form _ _ (List.getElem?_eq_getElem hp)
                  obtain ⟨b2, x2, y2, k2, v2, w2, u2⟩ := form _ _ (List.getElem?_eq_getElem hi2)
                  have sq := SqT.of (K := K) (s4 _ _ e2')
                  refine ⟨rfl, _, rfl, _, rfl, _, _, rfl, rfl, a, xs, _, _, rfl, rfl, sq, (by rw [Int.zero_add, at_prev hi2, List.getElem?_eq_getElem hp, v1]), b1, _, 1, .str y1, rfl, rfl, SqT.of (s4 _ _ u1), atI_nat (j := 1) rfl,
                    _, rfl, _, rfl, a, xs, _, _, rfl, rfl, sq, (by rw [Int.zero_add]; exact atI_nat (by rw [List.getElem?_eq_getElem hi2, v2])), b2, _, 0, .str x2, rfl, rfl, SqT.of (s4 _ _ u2), atI_nat (j := 0) rfl, rfl, _, e4, ?_, fun c u ec => ?_, ?_⟩
                  · rw [List.length_map, List.length_map, List.length_range]
                    exact small1000 (by omega)
                  · have nc : c ≠ D3 := ne_of_none ec hD3
                    rw [upd_ne nc]
                    exact s4 _ _ ec
                  · have e5 : ringP ds i = decide (V.str y1 = V.str x2) := by
                      unfold ringP
                      rw [← ld, List.getD_eq_getElem?_getD, List.getD_eq_getElem?_getD, w1, w2, Bool.eq_iff_iff]
                      simp [sndD, fstD, strD]
                      exact ⟨fun h => of_decide_eq_true h, fun h => decide_eq_true h⟩
                    rw [upd_same, List.range_succ, List.map_append, List.map_append, ← e5]
                    rfl
                · refine ⟨D3, _, rfl, SqL.of e4, ?_⟩
                  have e5 : (((List.range ((xs.length : Nat) : Int).toNat).map (ringP ds)).all id) = clashD rows (.tuple ds) := by
                    rw [clash_tup, hall, decide_eq_true (by omega), Int.toNat_natCast, List.all_map, ld]
                    rfl
                  rw [e5]
                  exact q H3 (s13.trans s4)
      | non =>
        refine ⟨_, rfl, _, _, .type "NoneType", _, false, rfl, .ty _, .base .non, kit_ty (by decide +kernel), _, rfl, ?_⟩
        exact iteT (q H1 s1)
      | bl b =>
        refine ⟨_, rfl, _, _, .type "bool", _, false, rfl, .ty _, .base (.bl b), kit_ty (by decide +kernel), _, rfl, ?_⟩
        exact iteT (q H1 s1)
      | int i =>
        refine ⟨_, rfl, _, _, .type "int", _, false, rfl, .ty _, .base (.int i), kit_ty (by decide +kernel), _, rfl, ?_⟩
        exact iteT (q H1 s1)
      | str h =>
        refine ⟨_, rfl, _, _, .type "str", _, false, rfl, .ty _, .base (.str _), kit_ty (by decide +kernel), _, rfl, ?_⟩
        exact iteT (q H1 s1)
      | lst e l h =>
        refine ⟨_, rfl, _, _, .type "list", _, false, rfl, .ty _, .base (.lst e), kit_ty (by decide +kernel), _, rfl, ?_⟩
        exact iteT (q H1 s1)
    · refine ⟨_, rfl, _, _, .type "dict", _, false, rfl, .ty _, .base (.dK hd), kit_ty (by decide +kernel), _, rfl, ?_⟩
      exact iteT (q H1 s1)
end
end K06

set_option Elab.async false
set_option maxRecDepth 100000
set_option maxHeartbeats 4000000
namespace Nb
open PySem L2
theorem hu65 {A : PySem.Around} {k : Nat} (hr : Room k A) : A.units + 65 < PySem.cLine := by
  have := hr.un
  omega
theorem seqIx {j n : Nat} (h : j < n) : PySem.seqIndex? (j : Int) n = some j := by
  have e : PySem.seqIndex? (j : Int) n = if (decide (0 ≤ (if (j : Int) < 0 then (j : Int) + n else (j : Int))) && decide ((if (j : Int) < 0 then (j : Int) + n else (j : Int)) < n)) = true then some (if (j : Int) < 0 then (j : Int) + n else (j : Int)).toNat else none := rfl
  rw [e, if_neg (show ¬ ((j : Int) < 0) by omega), if_pos (by simp; omega), Int.toNat_natCast]
theorem erase_map (l : List Str) (j : Nat) : (l.map V.str).eraseIdx j = (l.eraseIdx j).map V.str := by
  induction l generalizing j with
  | nil => rfl
  | cons x l ih =>
    cases j with
    | zero => rfl
    | succ j =>
      show V.str x :: (l.map V.str).eraseIdx j = V.str x :: (l.eraseIdx j).map V.str
      rw [ih]
theorem erase_perm {l : List Str} {j : Nat} (h : j < l.length) : (l[j] :: l.eraseIdx j).Perm l := by
  induction l generalizing j with
  | nil => simp at h
  | cons x l ih =>
    cases j with
    | zero => exact List.Perm.refl _
    | succ j =>
      have hj : j < l.length := by simpa using h
      show (l[j] :: x :: l.eraseIdx j).Perm (x :: l)
      exact (List.Perm.swap x l[j] _).trans ((ih hj).cons x)
theorem dps_strs {K : PySem.W.Frag} {H : Hp} : ∀ zs : List Str, DpAll K H (zs.map V.str) (zs.map PyData.str)
  | [] => .nil
  | z :: zs => .cons (.str z) (dps_strs zs)
theorem fine_strs {zs : List Str} (h : ∀ z ∈ zs, Word z) : Fine 1 (.list (zs.map PyData.str)) := fine_list fun d hd => by
  obtain ⟨z, hz, rfl⟩ := List.mem_map.mp hd
  exact fine_str (h z hz).2
/-- where a value stands in a row, or -1 -/
def spotI (row : List Str) (d : PyData) : Int := match place row d with
  | some j => (j : Nat)
  | none => -1
theorem any_place (row : List Str) (d : PyData) : ((row.map PyData.str).any fun z => PyData.eqv z d) = (place row d).isSome := by
  rw [List.any_map]
  cases d with
  | str x =>
    show row.any ((fun z => PyData.eqv z (.str x)) ∘ PyData.str) = (row.findIdx? (· == x)).isSome
    rw [List.findIdx?_isSome]
    congr 1
  | _ =>
    show row.any _ = false
    rw [List.any_eq_false]
    intro z _
    simp [PyData.eqv]
def badK (i j : Int) (k : Nat) : Bool := if k = 0 then decide (i < 0) else decide (j < 0) || decide (j ≤ i)
theorem before_spots (row : List Str) (a b : PyData) : ((List.range 2).filter (badK (spotI row a) (spotI row b))).isEmpty = before row a b := by
  have e : ((List.range 2).filter (badK (spotI row a) (spotI row b))).isEmpty = (!badK (spotI row a) (spotI row b) 0 && !badK (spotI row a) (spotI row b) 1) := by
    show (([0, 1] : List Nat).filter _).isEmpty = _
    cases h0 : badK (spotI row a) (spotI row b) 0 <;> cases h1 : badK (spotI row a) (spotI row b) 1 <;> simp [List.filter, h0, h1]
  rw [e]
  unfold badK spotI before
  cases ha : place row a with
  | none => simp
  | some i =>
    cases hb : place row b with
    | none => simp
    | some j =>
      simp
      rw [Bool.eq_iff_iff]
      simp
theorem dps_ints {K : PySem.W.Frag} {H : Hp} (ns : List Int) : DpAll K H (ns.map V.int) (ns.map PyData.int) := dp_ints ns
theorem good_words {row : List Str} (h : GoodRow row) : ∀ z ∈ row, Word z := fun z hz => (h.2.1 z hz).2
theorem fine_row {row : List Str} (h : ∀ z ∈ row, Word z) : Fine 1 (.tuple (row.map PyData.str)) := fine_tup fun d hd => by
  obtain ⟨z, hz, rfl⟩ := List.mem_map.mp hd
  exact fine_str (h z hz).2
/-- are the two in the row, the first one ahead -/
def spWithin : Sp := fun vs H Q _ => ∃ (a b : Addr) (x y : V) (d e : PyData) (row : List Str), vs = [.ref a, .ref b] ∧ H a = some (.tup [x, y]) ∧ Td H 7 x d ∧ Td H 7 y e ∧ (∃ o, H b = some (.frz o (.tup (row.map V.str))) ∧ TupObj o) ∧ GoodRow row ∧
  ∀ H', Same H H' → Q (.bl (before row d e)) H'
def RowsL (H : Hp) (as : List Addr) (rows : List (List Str)) : Prop := as.length = rows.length ∧ ∀ (k : Nat) (a : Addr) (row : List Str), as[k]? = some a → rows[k]? = some row → ∃ o, H a = some (.frz o (.tup (row.map V.str))) ∧ TupObj o
theorem rowsL_same {H H' : Hp} {as : List Addr} {rows : List (List Str)} (s : Same H H') (h : RowsL H as rows) : RowsL H' as rows :=
  ⟨h.1, fun k a row e1 e2 => let ⟨o, e3, e4⟩ := h.2 k a row e1 e2; ⟨o, s _ _ e3, e4⟩⟩
theorem rowsL_del {H H' : Hp} {p : Addr} {b : Nat} {as : List Addr} {rows : List (List Str)} (S : Src H p b) (s : Same (del H p) H') (h : RowsL H as rows) : RowsL H' as rows :=
  ⟨h.1, fun k a row e1 e2 => let ⟨o, e3, e4⟩ := h.2 k a row e1 e2; ⟨o, del_get s (src_ne S e3 (fun xs z => by cases z)) e3, e4⟩⟩
theorem rowsL_snoc {H : Hp} {as : List Addr} {rows : List (List Str)} {a : Addr} {row : List Str} {o : PySem.Obj} (h : RowsL H as rows) (e : H a = some (.frz o (.tup (row.map V.str)))) (t : TupObj o) : RowsL H (as ++ [a]) (rows ++ [row]) := by
  refine ⟨by simp [h.1], fun k b r e1 e2 => ?_⟩
  by_cases hk : k < as.length
  · rw [List.getElem?_append_left hk] at e1
    rw [List.getElem?_append_left (by rw [← h.1]; exact hk)] at e2
    exact h.2 k b r e1 e2
  · have e3 : k = as.length := by
      have := (List.getElem?_eq_some_iff.mp e1).1
      simp at this
      omega
    subst e3
    rw [List.getElem?_append_right (Nat.le_refl _)] at e1
    rw [h.1, List.getElem?_append_right (Nat.le_refl _)] at e2
    simp at e1 e2
    subst e1 e2
    exact ⟨o, e, t⟩
theorem good_sub {r s : List Str} (h : GoodRow r) (l : s.Sublist r) : GoodRow s :=
  ⟨h.1.sublist l, fun z hz => h.2.1 z (l.subset hz), Nat.le_trans l.length_le h.2.2⟩
theorem good_perm {r s : List Str} (h : GoodRow r) (l : s.Perm r) : GoodRow s :=
  ⟨l.nodup_iff.mpr h.1, fun z hz => h.2.1 z (l.subset hz), by rw [l.length_eq]; exact h.2.2⟩
theorem cut_strs (ys : List Str) (lo hi : Option Int) : ∃ ws : List Str, cutV (ys.map V.str) lo hi = ws.map V.str ∧ ws.Sublist ys := by
  refine ⟨(ys.drop (HT.sIx (ys.map V.str).length 0 lo)).take (HT.sIx (ys.map V.str).length (ys.map V.str).length hi - HT.sIx (ys.map V.str).length 0 lo), ?_, (List.take_sublist _ _).trans (List.drop_sublist _ _)⟩
  unfold cutV
  rw [List.map_take, List.map_drop]
def eight : List Str := ["a", "b", "c", "d", "node", "f", "box", "h"]
theorem good_eight : GoodRow eight := by
  refine ⟨by decide +kernel, fun z hz => ?_, by decide⟩
  have h1 : eight.all (fun z => isNm z && (decide (z.length ≤ 1000) && PyData.strOk z)) = true := by decide +kernel
  have h2 := List.all_eq_true.mp h1 z hz
  rw [Bool.and_eq_true, Bool.and_eq_true, decide_eq_true_eq] at h2
  exact h2
/-- rows of names, each a tuple of some of the names -/
def spRows : Sp := fun vs H Q _ => ∃ (p : Addr) (m t : Nat) (free : Bool) (b : Nat) (F : Hp), vs = [.ref p, .int m, .int t, .bl free] ∧ m ≤ 10 ∧ t ≤ 20 ∧ Src H p b ∧ b ≤ 800000 ∧ F p = none ∧ Same F H ∧
  ∀ (H' : Hp) (l : Addr) (as : List Addr) (rows : List (List Str)), Same F H' → F l = none → l ≠ p → H' l = some (.lst (as.map V.ref)) → RowsL H' as rows → rows.length = m → (∀ row ∈ rows, GoodRow row) → Src H' p (b + 8 + 17 * m) → Q (.ref l) H'
/-- the same texts in another order, as a new list -/
def spMixed : Sp := fun vs H Q _ => ∃ (p l : Addr) (zs : List Str) (b : Nat) (F : Hp), vs = [.ref p, .ref l] ∧ F l = some (.lst (zs.map V.str)) ∧ zs.length ≤ 20 ∧ (∀ z ∈ zs, Word z) ∧ Src H p b ∧ b ≤ 900000 ∧ F p = none ∧ Same F H ∧
  ∀ (H' : Hp) (l' : Addr) (ys : List Str), Same F H' → F l' = none → l' ≠ p → H' l' = some (.lst (ys.map V.str)) → ys.Perm zs → Src H' p (b + zs.length) → Q (.ref l') H'
end Nb
namespace K06
open PySem L2 Nb
abbrev sMixed : Stmt := topT 20
abbrev sWithin : Stmt := topT 21
abbrev sRows : Stmt := topT 22
theorem scMixed : FnScope ["_law_source_here", "_law_items", "_law_rest", "_law_found"] ["_law_source_here", "_law_items"] (defScope sMixed) := ⟨rfl, rfl, rfl, by decide +kernel, rfl, by decide +kernel, by decide +kernel⟩
theorem scWithin : FnScope ["_law_part", "_law_whole", "_law_item", "_law_spots", "_law_k"] ["_law_part", "_law_whole"] (defScope sWithin) := ⟨rfl, rfl, rfl, by decide +kernel, rfl, by decide +kernel, by decide +kernel⟩
theorem scRows : FnScope ["_law_source_here", "_law_many", "_law_most", "_law_is_free", "_law_whole", "_law_found", "_law_turn", "_law_some", "_law_item"] ["_law_source_here", "_law_many", "_law_most", "_law_is_free"] (defScope sRows) := ⟨rfl, rfl, rfl, by decide +kernel, rfl, by decide +kernel, by decide +kernel⟩
section
variable {P : Program} {w : World} {K : PySem.W.Frag} {mg : Str → Option Value} {base : Heap}
theorem ok_mixed {f fnext : Addr} {fd fdN : FuncData} (F : Fun K "_law_mixed" "_law_mixed" sMixed f fd) (T : Txt mg) (Fnext : Fun K "_law_next" "_law_next" sNext fnext fdN) (bnext : Binds K fdN ["_law_source_here", "_law_many"] []) (gnext : mg "_law_next" = some (.ref fnext))
    (Gnext : FnOk P w K mg base CX0 1 fnext fdN ["_law_source_here", "_law_many"] spNext) : FnOk P w K mg base CX0 2 f fd ["_law_source_here", "_law_items"] spMixed := by
  refine F.ok scMixed (fun vs H Q E h => ?_) (fun cdv A outer s H vs Q E hr h => ?_)
  · obtain ⟨p, l, zs, b, G, rfl, _⟩ := h
    rfl
  · obtain ⟨p, l, zs, b, G, rfl, hl, hlen, hw, hS, hB, hG, hs, q⟩ := h
    refine ⟨_, pss_cons (ps_par (i := 2) (j := 3) rfl scMixed.nd rfl rfl (by decide) rfl rfl (pa_cons (pe_callTy call_list_of (by rfl) T.list (by decide +kernel) (pa_cons (pv 1) pa_nil)) (pa_cons (pe_lst pa_nil) pa_nil)) rfl)
        (pss_cons (ps_while PassesOwn.never (pt_cmpR (op_neD hr.units) (pv 2) (pe_lst pa_nil) (nomark _)) (pss_one (ps_expr (pe_bm PySem.F.plainAttrs_list PySem.F.slot_list_append PySem.F.type_list_append mt_append (pv 3) (pa_cons (pe_bm PySem.F.plainAttrs_list PySem.F.slot_list_pop PySem.F.type_list_pop mt_popAt (pv 2) (pa_cons (pe_call Gnext hr (by rfl) gnext Fnext.kp bnext .nil pass0 (pa_cons (pv 0) (pa_cons (pe_callB call_len_seq (by rfl) T.len PySem.boot_len (pa_cons (pv 2) pa_nil)) pa_nil))) pa_nil)) pa_nil)))))
        (pss_one (ps_ret (pv 3)))), ?_⟩
    refine ⟨_, rfl, l, _, rfl, .inl (SqL.of (hs _ _ hl)), fun r hr0 => ?_⟩
    refine ⟨Nat.zero_le _, fun o ho => ?_⟩
    have nrp : r ≠ p := src_fresh hS hr0
    have S1 := src_new (o := HO.lst (zs.map V.str)) hS hr0
    have nop : o ≠ p := src_fresh S1 ho
    have nro : r ≠ o := ne_of_none upd_same ho
    have Gr : G r = none := hs.free hr0
    have Go : G o = none := (hs.trans (same_new hr0)).free ho
    refine ⟨_, _, rfl, while_by (fun σ H' => ∃ rs fs : List Str, σ = [some (.ref p), some (.ref l), some (.ref r), some (.ref o)] ∧ Same G H' ∧ H' r = some (.lst (rs.map V.str)) ∧ H' o = some (.lst (fs.map V.str)) ∧ (fs ++ rs).Perm zs ∧ Src H' p (b + fs.length))
      (fun σ H' => match H' r with | some (.lst xs) => xs.length | _ => 0) ?_ ?_ ?_⟩
    · refine ⟨zs, [], rfl, (hs.trans (same_new hr0)).trans (same_new ho), by rw [upd_ne nro]; exact upd_same, upd_same, List.Perm.refl _, src_new S1 ho⟩
    · rintro σ H' ⟨rs, fs, rfl, s1, er, eo, pm, S'⟩
      have lrs : fs.length + rs.length = zs.length := by rw [← List.length_append]; exact pm.length_eq
      have wrs : ∀ z ∈ rs, Word z := fun z hz => hw z (pm.subset (List.mem_append_right _ hz))
      refine ⟨_, rfl, Nat.zero_le _, fun e he => ?_⟩
      have ner : r ≠ e := ne_of_none er he
      have neo : o ≠ e := ne_of_none eo he
      have s2 : Same H' (upd H' e (.lst [])) := same_new he
      refine ⟨.list (rs.map PyData.str), .list [], .lst (SqL.of (s2 _ _ er)) (dps_strs rs), .lst (SqL.of upd_same) .nil, (fine_strs wrs).shaped (by decide), by decide, _, rfl, ?_⟩
      rw [eqv_nil]
      cases rs with
      | nil =>
        refine iteF ?_
        refine ⟨_, rfl, ?_⟩
        refine q _ o fs (s1.trans s2) Go nop (by rw [upd_ne neo]; exact eo) (by simpa using pm) ?_
        have : fs.length = zs.length := by simpa using lrs
        rw [← this]
        exact src_new S' he
      | cons z0 rs =>
        refine iteT ?_
        have S2 := src_new (o := HO.lst []) S' he
        have m0 : (match (upd H' e (.lst [])) r with | some (.lst xs) => xs.length | _ => 0) = (z0 :: rs).length := by
          rw [upd_ne ner, er]
          simp
        refine ⟨_, rfl, .inl ⟨rfl, _, SqL.of (s2 _ _ eo)⟩, _, rfl, .inl ⟨rfl, _, SqL.of (s2 _ _ er)⟩, _, rfl, _, rfl, r, _, rfl, .inl (SqL.of (s2 _ _ er)), p, _, _, del (upd H' e (.lst [])) p, rfl, by simp; omega, by simp at lrs ⊢; omega, S2, by omega, del_at, del_same, fun H2 k k0 k1 s3 S3 => ?_⟩
        have er2 := del_get s3 nrp (s2 _ _ er)
        have eo2 := del_get s3 nop (s2 _ _ eo)
        obtain ⟨j, rfl⟩ : ∃ j : Nat, k = (j : Int) := ⟨_, (Int.toNat_of_nonneg k0).symm⟩
        have hj : j < (z0 :: rs).length := by simp at k1 ⊢; omega
        have hjl : j < 1000 := by simp at hj lrs; omega
        refine ⟨r, _, _, j, .str (z0 :: rs)[j], rfl, rfl, er2, by omega, by omega, ?_, ?_, ?_⟩
        · exact seqIx (by rw [List.length_map]; exact hj)
        · rw [List.getElem?_map, List.getElem?_eq_getElem hj]
          rfl
        · rw [erase_map]
          have lr2 : ((z0 :: rs).eraseIdx j).length = rs.length := by rw [List.length_eraseIdx_of_lt hj]; rfl
          have nor : o ≠ r := nro.symm
          have eo3 : (upd H2 r (.lst (((z0 :: rs).eraseIdx j).map V.str))) o = some (.lst (fs.map V.str)) := by rw [upd_ne nor]; exact eo2
          refine ⟨o, _, _, rfl, rfl, eo3, ?_, ?_, ?_⟩
          · rw [List.length_map]
            exact small1000 (by omega)
          · refine ⟨(z0 :: rs).eraseIdx j, fs ++ [(z0 :: rs)[j]], rfl, ?_, ?_, ?_, ?_, ?_⟩
            · have s4 : Same G H2 := (same_del (s1.trans s2) hG).trans s3
              exact same_at (same_at s4 Gr) Go
            · rw [upd_ne nro]
              exact upd_same
            · rw [upd_same]
              simp
            · refine List.Perm.trans ?_ pm
              rw [List.append_assoc]
              exact List.Perm.append_left fs (erase_perm hj)
            · have := src_at (src_at S3 nrp.symm) nop.symm (o := HO.lst (fs.map V.str ++ [V.str (z0 :: rs)[j]])) (H := upd H2 r (.lst (((z0 :: rs).eraseIdx j).map V.str)))
              refine this.mono ?_
              rw [List.length_append]
              simp
              omega
          · show (match (upd (upd H2 r _) o _) r with | some (.lst xs) => xs.length | _ => 0) < (match H' r with | some (.lst xs) => xs.length | _ => 0)
            rw [upd_ne nro, upd_same, er]
            simp only [List.length_map]
            rw [lr2]
            exact Nat.lt_succ_self _
    · rintro σ' H1 Q1 Q2 hq ⟨v, ev, lv, kv⟩
      exact ⟨v, ev, lv, fun p hp => let ⟨d, e, a1, a2, a3, a4, c, ec, qq⟩ := kv p hp; ⟨d, e, a1, a2, a3, a4, c, ec, hq _ _ qq⟩⟩
theorem ok_within {f : Addr} {fd : FuncData} (F : Fun K "_law_within" "_law_within" sWithin f fd) (T : Txt mg) : FnOk P w K mg base CX0 1 f fd ["_law_part", "_law_whole"] spWithin := by
  refine F.ok scWithin (fun vs H Q E h => ?_) (fun cdv A outer s H vs Q E hr h => ?_)
  · obtain ⟨a, b, x, y, d, e, row, rfl, _⟩ := h
    rfl
  · obtain ⟨a, b, x, y, d, e, row, rfl, ha, hx, hy, ⟨ob, hb, tob⟩, hg, q⟩ := h
    refine ⟨_, pss_cons (ps_set (i := 3) scWithin.nd rfl (Or.inr rfl) (pe_lc (own := [("_law_item", 2)]) (g := gName 2) (tt := tYes) rfl scWithin.nd (pi_tup (pv 0)) (blkOk_by (N := ["_law_part", "_law_whole", "_law_item", "_law_spots", "_law_k"]) (sc := defScope sWithin) (by decide +kernel)) (fun _ _ _ _ _ => (pg_name (i := 2) scWithin.nd rfl (Or.inl rfl))) (fun _ _ _ _ _ => pts_nil) (fun _ _ _ _ _ => (pe_ifExp (pt_cmpR (r := rInT K) (op_inT (hu65 hr)) (pv 2) (pv 1) (by rfl)) (pe_tupIx (pv 1) (pa_cons (pv 2) pa_nil)) (pe_op op_sub pe_int pe_int)))))
        (pss_one (ps_ret (pe_cmpR (op_eqD hr.units) (pe_lc (own := [("_law_k", 4)]) (g := gName 4) rfl scWithin.nd (pi_range1 (by rfl) T.range (pa_cons (pe_callB call_len_seq (by rfl) T.len PySem.boot_len (pa_cons (pv 3) pa_nil)) pa_nil)) (blkOk_by (N := ["_law_part", "_law_whole", "_law_item", "_law_spots", "_law_k"]) (sc := defScope sWithin) (by decide +kernel)) (fun _ _ _ _ _ => (pg_name (i := 4) scWithin.nd rfl (Or.inl rfl))) (fun _ _ _ _ _ => (pts_one (PW.pt (pw_or (pt_cmpR op_lt (pe_ix (r := rIxL K) ix_list (pv 3) (pv 4) (fun _ _ => rfl)) pe_int (nomark _)) (pw_or1 (PW.pt (pw_and (pt_cmpR op_gt (pv 4) pe_int (nomark _)) (pw_and1 (pt_cmpR op_le (pe_ix (r := rIxL K) ix_list (pv 3) (pv 4) (fun _ _ => rfl)) (pe_ix (r := rIxL K) ix_list (pv 3) (pe_op op_sub (pv 4) pe_int) (fun _ _ => rfl)) (nomark _)))))))))) (fun _ _ _ _ _ => (pv 4))) (pe_lst pa_nil) (nomark _)))), ?_⟩
    refine ⟨_, rfl, a, rfl, ⟨_, SqT.of ha⟩, fun D hD => ?_⟩
    refine lc_tup (K := K) (a := a) (xs := [x, y]) (fun i H' => Same H H' ∧ H' D = some (.lst ((([d, e].take i).map fun c => spotI row c).map V.int))) ⟨same_new hD, upd_same⟩ (fun i H' _ ⟨s1, _⟩ => SqT.of (s1 _ _ ha)) (fun i z H' hz ⟨s1, eD⟩ => ?_) (fun H' ⟨s1, eD⟩ => ?_)
    · obtain ⟨c, ec, tc⟩ := tds_get (.cons hx (.cons hy .nil) : Tds H 7 [x, y] [d, e]) hz
      have tc' := td_same s1 tc
      have hb' := s1 _ _ hb
      have next : (([d, e].take i).map fun c => spotI row c).map V.int ++ [V.int (spotI row c)] = (([d, e].take (i + 1)).map fun c => spotI row c).map V.int := by
        rw [List.take_add_one, ec]
        simp
      have sm : ((([d, e].take i).map fun c => spotI row c).map V.int).length < sizeLine := by
        rw [List.length_map, List.length_map, List.length_take]
        exact Nat.lt_of_le_of_lt (Nat.min_le_right _ _) (small1000 (by simp))
      refine ⟨rfl, _, rfl, _, rfl, c, row.map PyData.str, (td_dp tc').1, .tup (.inl (.inr ⟨ob, hb'⟩)) (dps_strs row), td_shaped (K := K) tc' (by decide), (fine_row (good_words hg)).shaped (by decide), _, rfl, ?_⟩
      rw [any_place]
      cases ep : place row c with
      | none =>
        refine iteF ⟨_, _, rfl, rfl, _, eD, sm, same_at s1 hD, ?_⟩
        have e1 : spotI row c = 0 - 1 := by
          unfold spotI
          rw [ep]
          rfl
        rw [upd_same, ← next, e1]
      | some j =>
        have e1 : spotI row c = (j : Nat) := by
          unfold spotI
          rw [ep]
        cases tc' with
        | str wz =>
          rename_i zz
          have ep2 : row.findIdx? (· == zz) = some j := ep
          obtain ⟨hj, h2, h3⟩ := List.findIdx?_eq_some_iff_getElem.mp ep2
          have e2 : row[j]? = some zz := by rw [List.getElem?_eq_getElem hj, eq_of_beq h2]
          refine iteT ⟨_, rfl, b, ob, row, rfl, hb', tob, _, rfl, zz, j, rfl, hb', e2, fun m hm em => ?_, _, eD, sm, same_at s1 hD, ?_⟩
          · obtain ⟨q1, q2⟩ := List.getElem?_eq_some_iff.mp em
            have := h3 m hm
            rw [q2] at this
            simp at this
          · rw [upd_same, ← next, e1]
        | _ => cases ep
    · refine ⟨_, rfl, D, _, rfl, .inl (SqL.of eD), 2, rfl, by decide, by decide, fun D2 hD2 => ?_⟩
      refine lc_range (lo := 0) (n := 2) (fun i H2 => Same H' H2 ∧ H2 D2 = some (.lst ((((List.range i).filter (badK (spotI row d) (spotI row e))).map fun k => ((k : Nat) : Int)).map V.int))) ⟨same_new hD2, upd_same⟩ (fun i H2 hi ⟨s2, e2⟩ => ?_) (fun H2 ⟨s2, e2⟩ => ?_)
      · have eD2 := s2 _ _ eD
        have more : ∀ b : Bool, badK (spotI row d) (spotI row e) i = b → (((List.range (i + 1)).filter (badK (spotI row d) (spotI row e))).map fun k => ((k : Nat) : Int)).map V.int = (((List.range i).filter (badK (spotI row d) (spotI row e))).map fun k => ((k : Nat) : Int)).map V.int ++ (if b then [V.int (i : Nat)] else []) := fun b hb => by
          rw [List.range_succ, List.filter_append]
          cases b <;> simp [hb]
        have sm : ((((List.range i).filter (badK (spotI row d) (spotI row e))).map fun k => ((k : Nat) : Int)).map V.int).length < sizeLine := by
          rw [List.length_map, List.length_map]
          have h2 := List.length_filter_le (badK (spotI row d) (spotI row e)) (List.range i)
          rw [List.length_range] at h2
          exact small1000 (by omega)
        have keep : badK (spotI row d) (spotI row e) i = true → ∃ acc, H2 D2 = some (.lst acc) ∧ acc.length < sizeLine ∧ Same H' (upd H2 D2 (.lst (acc ++ [V.int (0 + (i : Nat))]))) ∧ (upd H2 D2 (.lst (acc ++ [V.int (0 + (i : Nat))]))) D2 = some (.lst ((((List.range (i + 1)).filter (badK (spotI row d) (spotI row e))).map fun k => ((k : Nat) : Int)).map V.int)) := fun hk => by
          refine ⟨_, e2, sm, fun c u ec => ?_, ?_⟩
          · rw [upd_ne (ne_of_none ec hD2)]
            exact s2 _ _ ec
          · rw [upd_same, more true hk, Int.zero_add]
            rfl
        have drop : badK (spotI row d) (spotI row e) i = false → Same H' H2 ∧ H2 D2 = some (.lst ((((List.range (i + 1)).filter (badK (spotI row d) (spotI row e))).map fun k => ((k : Nat) : Int)).map V.int)) := fun hk => by
          refine ⟨s2, ?_⟩
          rw [e2, more false hk]
          simp
        have h01 : i = 0 ∨ i = 1 := by omega
        rcases h01 with rfl | rfl
        · refine ⟨rfl, _, rfl, _, rfl, D, _, _, .int (spotI row d), rfl, rfl, SqL.of eD2, atI_nat (j := 0) rfl, _, _, rfl, rfl, _, rfl, ?_⟩
          refine ite2 (fun h1 => ?_) (fun h1 => ?_)
          · exact iteT ⟨_, rfl, keep h1⟩
          · refine ⟨_, rfl, _, _, rfl, rfl, _, rfl, iteF ?_⟩
            exact iteF (drop (by
              show decide (spotI row d < 0) = false
              simpa using h1))
        · refine ⟨rfl, _, rfl, _, rfl, D, _, _, .int (spotI row e), rfl, rfl, SqL.of eD2, atI_nat (j := 1) rfl, _, _, rfl, rfl, _, rfl, ?_⟩
          refine ite2 (fun h1 => ?_) (fun h1 => ?_)
          · refine iteT ⟨_, rfl, keep ?_⟩
            show (decide (spotI row e < 0) || decide (spotI row e ≤ spotI row d)) = true
            have h1' : decide (spotI row e < 0) = true := h1
            rw [h1']
            rfl
          · have h1' : decide (spotI row e < 0) = false := by simpa using h1
            refine ⟨_, rfl, _, _, rfl, rfl, _, rfl, iteT ?_⟩
            refine ⟨_, rfl, _, rfl, D, _, _, .int (spotI row e), rfl, rfl, SqL.of eD2, atI_nat (j := 1) rfl, _, rfl, _, rfl, _, _, rfl, rfl, D, _, _, .int (spotI row d), rfl, rfl, SqL.of eD2, atI_nat (j := 0) rfl, _, _, rfl, rfl, _, rfl, ?_⟩
            refine ite2 (fun h2 => ?_) (fun h2 => ?_)
            · refine ⟨_, rfl, keep ?_⟩
              show (decide (spotI row e < 0) || decide (spotI row e ≤ spotI row d)) = true
              have h2' : decide (spotI row e ≤ spotI row d) = true := h2
              rw [h1', h2']
              rfl
            · refine drop ?_
              show (decide (spotI row e < 0) || decide (spotI row e ≤ spotI row d)) = false
              have h2' : decide (spotI row e ≤ spotI row d) = false := by simpa using h2
              rw [h1', h2']
              rfl
      · refine ⟨Nat.zero_le _, fun D3 hD3 => ?_⟩
        have s3 : Same H2 (upd H2 D3 (.lst [])) := same_new hD3
        refine ⟨.list (((List.range 2).filter (badK (spotI row d) (spotI row e))).map fun k => PyData.int ((k : Nat) : Int)), .list [], .lst (s3.seq (SqL.of e2)) ?_, .lst (SqL.of upd_same) .nil, ?_, by decide, ?_⟩
        · have := dps_ints (K := K) (H := upd H2 D3 (.lst [])) (((List.range 2).filter (badK (spotI row d) (spotI row e))).map fun k => ((k : Nat) : Int))
          rw [List.map_map] at this
          rw [List.map_map]
          rw [List.map_map] at this
          exact this
        · have := fine_ints (((List.range 2).filter (badK (spotI row d) (spotI row e))).map fun k => ((k : Nat) : Int))
          rw [List.map_map] at this
          exact this.shaped (by decide)
        · rw [eqv_nil]
          have e5 : (((List.range 2).filter (badK (spotI row d) (spotI row e))).map fun k => PyData.int ((k : Nat) : Int)).isEmpty = before row d e := by
            rw [List.isEmpty_map]
            exact before_spots row d e
          rw [e5]
          exact q _ ((s1.trans s2).trans s3)
theorem ok_rows {f fnext fmixed : Addr} {fd fdN fdM : FuncData} (F : Fun K "_law_name_rows" "_law_name_rows" sRows f fd) (T : Txt mg) (Fnext : Fun K "_law_next" "_law_next" sNext fnext fdN) (bnext : Binds K fdN ["_law_source_here", "_law_many"] []) (gnext : mg "_law_next" = some (.ref fnext))
    (Gnext : FnOk P w K mg base CX0 1 fnext fdN ["_law_source_here", "_law_many"] spNext) (Fmixed : Fun K "_law_mixed" "_law_mixed" sMixed fmixed fdM) (bmixed : Binds K fdM ["_law_source_here", "_law_items"] []) (gmixed : mg "_law_mixed" = some (.ref fmixed))
    (Gmixed : FnOk P w K mg base CX0 2 fmixed fdM ["_law_source_here", "_law_items"] spMixed) : FnOk P w K mg base CX0 3 f fd ["_law_source_here", "_law_many", "_law_most", "_law_is_free"] spRows := by
  refine F.ok scRows (fun vs H Q E h => ?_) (fun cdv A outer s H vs Q E hr h => ?_)
  · obtain ⟨p, m, t, free, b, G, rfl, _⟩ := h
    rfl
  · obtain ⟨p, m, t, free, b, G, rfl, hm, ht, hS, hB, hG, hs, q⟩ := h
    have hr1 : Room 1 _ := hr.mono (by decide)
    refine ⟨_, pss_cons (ps_par (i := 4) (j := 5) rfl scRows.nd rfl rfl (by decide) rfl rfl (pa_cons (pe_slice sl_list (pe_call Gmixed hr (by rfl) gmixed Fmixed.kp bmixed .nil pass0 (pa_cons (pv 0) (pa_cons (pe_lst (pa_cons pe_str (pa_cons pe_str (pa_cons pe_str (pa_cons pe_str (pa_cons pe_str (pa_cons pe_str (pa_cons pe_str (pa_cons pe_str pa_nil))))))))) pa_nil))) po_none (po_some (pv 2))) (pa_cons (pe_lst pa_nil) pa_nil)) rfl)
        (pss_cons (ps_for PassesOwn.never rfl (pi_range1 (by rfl) T.range (pa_cons (pv 1) pa_nil)) (pg_name (i := 6) scRows.nd rfl (Or.inl rfl)) (pss_cons (ps_set (i := 7) scRows.nd rfl (Or.inl rfl) (pe_ifExp (PW.pt (pw_or (pt_not (pt_val (pv 3))) (pw_or1 (pt_cmpR op_eq (pe_call Gnext hr1 (by rfl) gnext Fnext.kp bnext .nil pass0 (pa_cons (pv 0) (pa_cons pe_int pa_nil))) pe_int (nomark _))))) (pv 4) (pe_call Gmixed hr (by rfl) gmixed Fmixed.kp bmixed .nil pass0 (pa_cons (pv 0) (pa_cons (pv 4) pa_nil)))))
        (pss_one (ps_expr (pe_bm PySem.F.plainAttrs_list PySem.F.slot_list_append PySem.F.type_list_append mt_append (pv 5) (pa_cons (pe_callTy cr_tupleF (by rfl) T.tuple (by decide +kernel) (pa_cons (pe_lc (own := [("_law_item", 8)]) (g := gName 8) rfl scRows.nd (pi_list (pv 7)) (blkOk_by (N := ["_law_source_here", "_law_many", "_law_most", "_law_is_free", "_law_whole", "_law_found", "_law_turn", "_law_some", "_law_item"]) (sc := defScope sRows) (by decide +kernel)) (fun _ _ _ _ _ => (pg_name (i := 8) scRows.nd rfl (Or.inl rfl))) (fun _ _ _ _ _ => (pts_one (pt_cmpR op_gt (pe_call Gnext hr1 (by rfl) gnext Fnext.kp bnext .nil pass0 (pa_cons (pv 0) (pa_cons pe_int pa_nil))) pe_int (nomark _)))) (fun _ _ _ _ _ => (pv 8))) pa_nil)) pa_nil))))))
        (pss_one (ps_ret (pv 5)))), ?_⟩
    refine ⟨_, rfl, (by show 8 ≤ sizeLine; decide), fun l0 hl0 => ?_⟩
    have n0 : l0 ≠ p := src_fresh hS hl0
    refine ⟨p, l0, eight, b, upd G l0 (.lst (eight.map V.str)), rfl, upd_same, by decide, good_words good_eight, src_new hS hl0, by omega, grow_at hG hS hl0, grow_up hs, fun H1 l1 ys s1 f1 n1 e1 pm S1 => ?_⟩
    have sG1 : Same G H1 := (grow_same hs hl0).trans s1
    refine ⟨_, rfl, _, rfl, l1, _, rfl, SqL.of e1, fun W hW => ?_⟩
    obtain ⟨ws, ews, sub⟩ := cut_strs ys none (some (t : Int))
    have gws : GoodRow ws := good_sub (good_perm good_eight pm) sub
    have nWp : W ≠ p := src_fresh S1 hW
    have S2 := src_new (o := HO.lst (cutV (ys.map V.str) none (some (t : Int)))) S1 hW
    refine ⟨Nat.zero_le _, fun o ho => ?_⟩
    have nop : o ≠ p := src_fresh S2 ho
    have nWo : W ≠ o := ne_of_none upd_same ho
    have GW : G W = none := sG1.free hW
    have Go : G o = none := (sG1.trans (same_new hW)).free ho
    refine ⟨_, _, rfl, ?_⟩
    refine ⟨_, rfl, m, rfl, by omega, by omega, for_range (lo := 0) (n := ((m : Nat) : Int).toNat) (fun i σ H' => ∃ v6 v7, σ = [some (.ref p), some (.int m), some (.int t), some (.bl free), some (.ref W), some (.ref o), v6, v7, none] ∧ Same G H' ∧ H' W = some (.lst (ws.map V.str)) ∧ Src H' p (b + 8 + 17 * i) ∧
      ∃ (as : List Addr) (rows : List (List Str)), H' o = some (.lst (as.map V.ref)) ∧ RowsL H' as rows ∧ rows.length = i ∧ ∀ row ∈ rows, GoodRow row) ?_ ?_ ?_⟩
    · refine ⟨_, _, rfl, (sG1.trans (same_new hW)).trans (same_new ho), by rw [upd_ne nWo, upd_same, ews], (src_new S2 ho).mono (by simp [eight]), [], [], upd_same, ⟨rfl, fun k a row e _ => by simp at e⟩, rfl, fun row h => by cases h⟩
    · rintro i σ H2 hi ⟨v6, v7, rfl, s2, eW, S2', as, rows, eo, hR, lr, hg⟩
      have hi10 : i < 10 := by omega
      have las : as.length = i := by rw [hR.1, lr]
      refine ⟨_, rfl, _, rfl, ?_⟩
      have same1 : ∃ (wl : Addr) (us : List Str) (H3 : Hp), wl = W ∧ H3 = H2 ∧ Same G H3 ∧ H3 wl = some (.lst (us.map V.str)) ∧ wl ≠ p ∧ GoodRow us ∧ H3 W = some (.lst (ws.map V.str)) ∧ H3 o = some (.lst (as.map V.ref)) ∧ RowsL H3 as rows ∧ Src H3 p (b + 8 + 17 * i + 9) :=
        ⟨W, ws, H2, rfl, rfl, s2, eW, nWp, gws, eW, eo, hR, S2'.mono (by omega)⟩
      cases free with
      | false =>
        refine iteT ⟨_, rfl, ?_⟩
        obtain ⟨wl, us, H3, ew, eh, s3, ewl, nwl, gus, eW3, eo3, hR3, S3⟩ := same1
        rw [← ew, ← eh]
        refine ⟨_, rfl, .inl ⟨rfl, _, SqL.of eo3⟩, _, rfl, wl, rfl, ⟨_, SqL.of ewl⟩, fun D hD => ?_⟩
        have nDp : D ≠ p := src_fresh S3 hD
        have nlD : wl ≠ D := ne_of_none ewl hD
        have nWD : W ≠ D := ne_of_none eW3 hD
        have noD : o ≠ D := ne_of_none eo3 hD
        have l8 := gus.2.2
        refine lc_list (K := K) (a := wl) (xs := us.map V.str) (fun j H4 => Same G H4 ∧ H4 wl = some (.lst (us.map V.str)) ∧ H4 W = some (.lst (ws.map V.str)) ∧ H4 o = some (.lst (as.map V.ref)) ∧ RowsL H4 as rows ∧ Src H4 p (b + 8 + 17 * i + 9 + j) ∧ ∃ kept : List Str, H4 D = some (.lst (kept.map V.str)) ∧ kept.Sublist (us.take j))
          ⟨s3.trans (same_new hD), by rw [upd_ne nlD]; exact ewl, by rw [upd_ne nWD]; exact eW3, by rw [upd_ne noD]; exact eo3, rowsL_same (same_new hD) hR3, src_new S3 hD, [], upd_same, List.Sublist.refl _⟩ (fun j H4 _ ⟨_, q1, _⟩ => SqL.of q1) (fun j y H4 hy ⟨r1, r2, r3, r4, r5, r6, kept, r7, r8⟩ => ?_) (fun H4 ⟨r1, r2, r3, r4, r5, r6, kept, r7, r8⟩ => ?_)
        · have hjl : j < us.length := by
            have := (List.getElem?_eq_some_iff.mp hy).1
            simpa using this
          have ey : y = V.str us[j] := by
            rw [List.getElem?_map, List.getElem?_eq_getElem hjl] at hy
            exact (Option.some.inj hy).symm
          subst ey
          refine ⟨rfl, _, rfl, p, 3, _, del H4 p, rfl, by decide, by decide, r6, by omega, del_at, del_same, fun H5 k k0 k1 s5 S5 => ?_⟩
          have u1 : Same G H5 := (same_del r1 hG).trans s5
          have u2 := del_get s5 nwl r2
          have u3 := del_get s5 nWp r3
          have u4 := del_get s5 nop r4
          have u5 := rowsL_del r6 s5 r5
          have u7 := del_get s5 nDp r7
          have tk : us.take (j + 1) = us.take j ++ [us[j]] := by
            rw [List.take_add_one, List.getElem?_eq_getElem hjl]
            rfl
          have GD : G D = none := s3.free hD
          refine ⟨_, _, rfl, rfl, _, rfl, ite2 (fun _ => ?_) (fun _ => ?_)⟩
          · refine ⟨_, rfl, _, u7, ?_, same_at u1 GD, by rw [upd_ne nlD]; exact u2, by rw [upd_ne nWD]; exact u3, by rw [upd_ne noD]; exact u4, ?_, src_at S5 nDp.symm, kept ++ [us[j]], ?_, ?_⟩
            · rw [List.length_map]
              have := r8.length_le
              rw [List.length_take] at this
              exact small1000 (by omega)
            · refine ⟨u5.1, fun k a row e1 e2 => ?_⟩
              obtain ⟨ob, e3, e4⟩ := u5.2 k a row e1 e2
              have naD : a ≠ D := fun z => by
                rw [z, u7] at e3
                cases e3
              exact ⟨ob, by rw [upd_ne naD]; exact e3, e4⟩
            · rw [upd_same]
              simp
            · rw [tk]
              exact r8.append (List.Sublist.refl _)
          · exact ⟨u1, u2, u3, u4, u5, S5, kept, u7, by rw [tk]; exact r8.trans (List.sublist_append_left _ _)⟩
        · refine ⟨D, _, rfl, SqL.of r7, fun tq ob htq tob => ?_⟩
          have noq : o ≠ tq := ne_of_none r4 htq
          have nWq : W ≠ tq := ne_of_none r3 htq
          have v4 : (upd H4 tq (.frz ob (.tup (kept.map V.str)))) o = some (.lst (as.map V.ref)) := by rw [upd_ne noq]; exact r4
          have sub8 : kept.Sublist us := r8.trans (List.take_sublist _ _)
          have tR : RowsL (upd H4 tq (.frz ob (.tup (kept.map V.str)))) (as ++ [tq]) (rows ++ [kept]) := rowsL_snoc (rowsL_same (same_new htq) r5) upd_same tob
          refine ⟨o, _, _, rfl, rfl, v4, ?_, ?_⟩
          · rw [List.length_map, las]
            exact small1000 (by omega)
          · refine ⟨_, _, rfl, same_at (r1.trans (same_new htq)) Go, by first | (rw [upd_ne nWo, upd_ne nWq]; exact r3) | (rw [ew, upd_ne nWo, upd_ne nWq]; exact r3), (src_at (src_new r6 htq) nop.symm).mono (by simp; omega), as ++ [tq], rows ++ [kept], ?_, ?_, by simp [lr], fun row hrow => ?_⟩
            · rw [upd_same]
              simp
            · refine ⟨tR.1, fun k a row e1 e2 => ?_⟩
              obtain ⟨ob2, e3, e4⟩ := tR.2 k a row e1 e2
              have nao : a ≠ o := fun z => by
                rw [z, v4] at e3
                cases e3
              exact ⟨ob2, by rw [upd_ne nao]; exact e3, e4⟩
            · rcases List.mem_append.mp hrow with hrow | hrow
              · exact hg row hrow
              · rw [List.mem_singleton.mp hrow]
                exact good_sub gus sub8
      | true =>
        refine iteF ⟨_, rfl, p, 2, _, del H2 p, rfl, by decide, by decide, S2', by omega, del_at, del_same, fun H25 k k0 k1 s25 S25 => ?_⟩
        have t25 : Same G H25 := (same_del s2 hG).trans s25
        have eW25 := del_get s25 nWp eW
        have eo25 := del_get s25 nop eo
        have hR25 := rowsL_del S2' s25 hR
        refine ⟨rfl, _, rfl, ite2 (fun _ => ?_) (fun _ => ?_)⟩
        · refine ⟨_, rfl, ?_⟩
          obtain ⟨wl, us, H3, ew, eh, s3, ewl, nwl, gus, eW3, eo3, hR3, S3⟩ : ∃ (wl : Addr) (us : List Str) (H3 : Hp), wl = W ∧ H3 = H25 ∧ Same G H3 ∧ H3 wl = some (.lst (us.map V.str)) ∧ wl ≠ p ∧ GoodRow us ∧ H3 W = some (.lst (ws.map V.str)) ∧ H3 o = some (.lst (as.map V.ref)) ∧ RowsL H3 as rows ∧ Src H3 p (b + 8 + 17 * i + 9) :=
            ⟨W, ws, H25, rfl, rfl, t25, eW25, nWp, gws, eW25, eo25, hR25, S25.mono (by omega)⟩
          rw [← ew, ← eh]
          refine ⟨_, rfl, .inl ⟨rfl, _, SqL.of eo3⟩, _, rfl, wl, rfl, ⟨_, SqL.of ewl⟩, fun D hD => ?_⟩
          have nDp : D ≠ p := src_fresh S3 hD
          have nlD : wl ≠ D := ne_of_none ewl hD
          have nWD : W ≠ D := ne_of_none eW3 hD
          have noD : o ≠ D := ne_of_none eo3 hD
          have l8 := gus.2.2
          refine lc_list (K := K) (a := wl) (xs := us.map V.str) (fun j H4 => Same G H4 ∧ H4 wl = some (.lst (us.map V.str)) ∧ H4 W = some (.lst (ws.map V.str)) ∧ H4 o = some (.lst (as.map V.ref)) ∧ RowsL H4 as rows ∧ Src H4 p (b + 8 + 17 * i + 9 + j) ∧ ∃ kept : List Str, H4 D = some (.lst (kept.map V.str)) ∧ kept.Sublist (us.take j))
            ⟨s3.trans (same_new hD), by rw [upd_ne nlD]; exact ewl, by rw [upd_ne nWD]; exact eW3, by rw [upd_ne noD]; exact eo3, rowsL_same (same_new hD) hR3, src_new S3 hD, [], upd_same, List.Sublist.refl _⟩ (fun j H4 _ ⟨_, q1, _⟩ => SqL.of q1) (fun j y H4 hy ⟨r1, r2, r3, r4, r5, r6, kept, r7, r8⟩ => ?_) (fun H4 ⟨r1, r2, r3, r4, r5, r6, kept, r7, r8⟩ => ?_)
          · have hjl : j < us.length := by
              have := (List.getElem?_eq_some_iff.mp hy).1
              simpa using this
            have ey : y = V.str us[j] := by
              rw [List.getElem?_map, List.getElem?_eq_getElem hjl] at hy
              exact (Option.some.inj hy).symm
            subst ey
            refine ⟨rfl, _, rfl, p, 3, _, del H4 p, rfl, by decide, by decide, r6, by omega, del_at, del_same, fun H5 k k0 k1 s5 S5 => ?_⟩
            have u1 : Same G H5 := (same_del r1 hG).trans s5
            have u2 := del_get s5 nwl r2
            have u3 := del_get s5 nWp r3
            have u4 := del_get s5 nop r4
            have u5 := rowsL_del r6 s5 r5
            have u7 := del_get s5 nDp r7
            have tk : us.take (j + 1) = us.take j ++ [us[j]] := by
              rw [List.take_add_one, List.getElem?_eq_getElem hjl]
              rfl
            have GD : G D = none := s3.free hD
            refine ⟨_, _, rfl, rfl, _, rfl, ite2 (fun _ => ?_) (fun _ => ?_)⟩
            · refine ⟨_, rfl, _, u7, ?_, same_at u1 GD, by rw [upd_ne nlD]; exact u2, by rw [upd_ne nWD]; exact u3, by rw [upd_ne noD]; exact u4, ?_, src_at S5 nDp.symm, kept ++ [us[j]], ?_, ?_⟩
              · rw [List.length_map]
                have := r8.length_le
                rw [List.length_take] at this
                exact small1000 (by omega)
              · refine ⟨u5.1, fun k a row e1 e2 => ?_⟩
                obtain ⟨ob, e3, e4⟩ := u5.2 k a row e1 e2
                have naD : a ≠ D := fun z => by
                  rw [z, u7] at e3
                  cases e3
                exact ⟨ob, by rw [upd_ne naD]; exact e3, e4⟩
              · rw [upd_same]
                simp
              · rw [tk]
                exact r8.append (List.Sublist.refl _)
            · exact ⟨u1, u2, u3, u4, u5, S5, kept, u7, by rw [tk]; exact r8.trans (List.sublist_append_left _ _)⟩
          · refine ⟨D, _, rfl, SqL.of r7, fun tq ob htq tob => ?_⟩
            have noq : o ≠ tq := ne_of_none r4 htq
            have nWq : W ≠ tq := ne_of_none r3 htq
            have v4 : (upd H4 tq (.frz ob (.tup (kept.map V.str)))) o = some (.lst (as.map V.ref)) := by rw [upd_ne noq]; exact r4
            have sub8 : kept.Sublist us := r8.trans (List.take_sublist _ _)
            have tR : RowsL (upd H4 tq (.frz ob (.tup (kept.map V.str)))) (as ++ [tq]) (rows ++ [kept]) := rowsL_snoc (rowsL_same (same_new htq) r5) upd_same tob
            refine ⟨o, _, _, rfl, rfl, v4, ?_, ?_⟩
            · rw [List.length_map, las]
              exact small1000 (by omega)
            · refine ⟨_, _, rfl, same_at (r1.trans (same_new htq)) Go, by first | (rw [upd_ne nWo, upd_ne nWq]; exact r3) | (rw [ew, upd_ne nWo, upd_ne nWq]; exact r3), (src_at (src_new r6 htq) nop.symm).mono (by simp; omega), as ++ [tq], rows ++ [kept], ?_, ?_, by simp [lr], fun row hrow => ?_⟩
              · rw [upd_same]
                simp
              · refine ⟨tR.1, fun k a row e1 e2 => ?_⟩
                obtain ⟨ob2, e3, e4⟩ := tR.2 k a row e1 e2
                have nao : a ≠ o := fun z => by
                  rw [z, v4] at e3
                  cases e3
                exact ⟨ob2, by rw [upd_ne nao]; exact e3, e4⟩
              · rcases List.mem_append.mp hrow with hrow | hrow
                · exact hg row hrow
                · rw [List.mem_singleton.mp hrow]
                  exact good_sub gus sub8
        · refine ⟨_, rfl, _, rfl, p, W, ws, _, del H25 p, rfl, by rw [del_ne nWp]; exact eW25, Nat.le_trans gws.2.2 (by decide), good_words gws, S25, by omega, del_at, del_same, fun H3 wl us s3' f3 nwl ewl pm3 S3' => ?_⟩
          have s3 : Same G H3 := (same_del t25 hG).trans s3'
          have gus : GoodRow us := good_perm gws pm3
          have eW3 := del_get s3' nWp eW25
          have eo3 := del_get s3' nop eo25
          have hR3 := rowsL_del S25 s3' hR25
          have S3 : Src H3 p (b + 8 + 17 * i + 9) := S3'.mono (by have := gws.2.2; omega)
          refine ⟨_, rfl, .inl ⟨rfl, _, SqL.of eo3⟩, _, rfl, wl, rfl, ⟨_, SqL.of ewl⟩, fun D hD => ?_⟩
          have nDp : D ≠ p := src_fresh S3 hD
          have nlD : wl ≠ D := ne_of_none ewl hD
          have nWD : W ≠ D := ne_of_none eW3 hD
          have noD : o ≠ D := ne_of_none eo3 hD
          have l8 := gus.2.2
          refine lc_list (K := K) (a := wl) (xs := us.map V.str) (fun j H4 => Same G H4 ∧ H4 wl = some (.lst (us.map V.str)) ∧ H4 W = some (.lst (ws.map V.str)) ∧ H4 o = some (.lst (as.map V.ref)) ∧ RowsL H4 as rows ∧ Src H4 p (b + 8 + 17 * i + 9 + j) ∧ ∃ kept : List Str, H4 D = some (.lst (kept.map V.str)) ∧ kept.Sublist (us.take j))
            ⟨s3.trans (same_new hD), by rw [upd_ne nlD]; exact ewl, by rw [upd_ne nWD]; exact eW3, by rw [upd_ne noD]; exact eo3, rowsL_same (same_new hD) hR3, src_new S3 hD, [], upd_same, List.Sublist.refl _⟩ (fun j H4 _ ⟨_, q1, _⟩ => SqL.of q1) (fun j y H4 hy ⟨r1, r2, r3, r4, r5, r6, kept, r7, r8⟩ => ?_) (fun H4 ⟨r1, r2, r3, r4, r5, r6, kept, r7, r8⟩ => ?_)
          · have hjl : j < us.length := by
              have := (List.getElem?_eq_some_iff.mp hy).1
              simpa using this
            have ey : y = V.str us[j] := by
              rw [List.getElem?_map, List.getElem?_eq_getElem hjl] at hy
              exact (Option.some.inj hy).symm
            subst ey
            refine ⟨rfl, _, rfl, p, 3, _, del H4 p, rfl, by decide, by decide, r6, by omega, del_at, del_same, fun H5 k k0 k1 s5 S5 => ?_⟩
            have u1 : Same G H5 := (same_del r1 hG).trans s5
            have u2 := del_get s5 nwl r2
            have u3 := del_get s5 nWp r3
            have u4 := del_get s5 nop r4
            have u5 := rowsL_del r6 s5 r5
            have u7 := del_get s5 nDp r7
            have tk : us.take (j + 1) = us.take j ++ [us[j]] := by
              rw [List.take_add_one, List.getElem?_eq_getElem hjl]
              rfl
            have GD : G D = none := s3.free hD
            refine ⟨_, _, rfl, rfl, _, rfl, ite2 (fun _ => ?_) (fun _ => ?_)⟩
            · refine ⟨_, rfl, _, u7, ?_, same_at u1 GD, by rw [upd_ne nlD]; exact u2, by rw [upd_ne nWD]; exact u3, by rw [upd_ne noD]; exact u4, ?_, src_at S5 nDp.symm, kept ++ [us[j]], ?_, ?_⟩
              · rw [List.length_map]
                have := r8.length_le
                rw [List.length_take] at this
                exact small1000 (by omega)
              · refine ⟨u5.1, fun k a row e1 e2 => ?_⟩
                obtain ⟨ob, e3, e4⟩ := u5.2 k a row e1 e2
                have naD : a ≠ D := fun z => by
                  rw [z, u7] at e3
                  cases e3
                exact ⟨ob, by rw [upd_ne naD]; exact e3, e4⟩
              · rw [upd_same]
                simp
              · rw [tk]
                exact r8.append (List.Sublist.refl _)
            · exact ⟨u1, u2, u3, u4, u5, S5, kept, u7, by rw [tk]; exact r8.trans (List.sublist_append_left _ _)⟩
          · refine ⟨D, _, rfl, SqL.of r7, fun tq ob htq tob => ?_⟩
            have noq : o ≠ tq := ne_of_none r4 htq
            have nWq : W ≠ tq := ne_of_none r3 htq
            have v4 : (upd H4 tq (.frz ob (.tup (kept.map V.str)))) o = some (.lst (as.map V.ref)) := by rw [upd_ne noq]; exact r4
            have sub8 : kept.Sublist us := r8.trans (List.take_sublist _ _)
            have tR : RowsL (upd H4 tq (.frz ob (.tup (kept.map V.str)))) (as ++ [tq]) (rows ++ [kept]) := rowsL_snoc (rowsL_same (same_new htq) r5) upd_same tob
            refine ⟨o, _, _, rfl, rfl, v4, ?_, ?_⟩
            · rw [List.length_map, las]
              exact small1000 (by omega)
            · refine ⟨_, _, rfl, same_at (r1.trans (same_new htq)) Go, by first | (rw [upd_ne nWo, upd_ne nWq]; exact r3) | (rw [ew, upd_ne nWo, upd_ne nWq]; exact r3), (src_at (src_new r6 htq) nop.symm).mono (by simp; omega), as ++ [tq], rows ++ [kept], ?_, ?_, by simp [lr], fun row hrow => ?_⟩
              · rw [upd_same]
                simp
              · refine ⟨tR.1, fun k a row e1 e2 => ?_⟩
                obtain ⟨ob2, e3, e4⟩ := tR.2 k a row e1 e2
                have nao : a ≠ o := fun z => by
                  rw [z, v4] at e3
                  cases e3
                exact ⟨ob2, by rw [upd_ne nao]; exact e3, e4⟩
              · rcases List.mem_append.mp hrow with hrow | hrow
                · exact hg row hrow
                · rw [List.mem_singleton.mp hrow]
                  exact good_sub gus sub8
    · rintro σ H2 ⟨v6, v7, rfl, s2, eW, S2', as, rows, eo, hR, lr, hg⟩
      rw [Int.toNat_natCast] at lr S2'
      exact ⟨_, rfl, q H2 o as rows s2 Go nop eo hR lr hg S2'⟩
end
end K06

set_option Elab.async false
set_option maxRecDepth 100000
set_option maxHeartbeats 4000000
namespace Nb
open PySem L2
def RowsF (H : Hp) (r : Addr) (rows : List (List Str)) : Prop := ∃ as : List Addr, H r = some (.tup (as.map V.ref)) ∧ RowsL H as rows
theorem rowsF_at {H : Hp} {r : Addr} {rows : List (List Str)} (h : RowsF H r rows) : RowsAt H r rows :=
  let ⟨as, h1, h2⟩ := h; ⟨as, h1, h2.1, fun k a row e1 e2 => let ⟨o, e3, _⟩ := h2.2 k a row e1 e2; .inr ⟨o, e3⟩⟩
theorem rowsF_same {H H' : Hp} {r : Addr} {rows : List (List Str)} (s : Same H H') (h : RowsF H r rows) : RowsF H' r rows :=
  let ⟨as, h1, h2⟩ := h; ⟨as, s _ _ h1, rowsL_same s h2⟩
def spFits : Sp := fun vs H Q _ => ∃ (r : Addr) (x : V) (d : PyData) (rows : List (List Str)), vs = [.ref r, x] ∧ RowsF H r rows ∧ (∀ row ∈ rows, GoodRow row) ∧ rows.length ≤ 100 ∧ Cl H x d ∧ ∀ H', Same H H' → Q (.bl (clashD rows d)) H'
theorem bad_step {rows : List (List Str)} {ds : List PyData} {i : Nat} {d : PyData} (e : ds[i]? = some d) (h : stepD rows d = false) : clashD rows (.tuple ds) = false := by
  rw [clash_tup]
  have h2 : ds.all (stepD rows) = false := by
    rw [List.all_eq_false]
    exact ⟨d, List.mem_of_getElem? e, by rw [h]; decide⟩
  rw [h2]
  simp
theorem before_ne {row : List Str} {a b : PyData} (h : PyData.eqv a b = true) : before row a b = false := by
  cases ha : before row a b with
  | false => rfl
  | true =>
    unfold before place at ha
    cases a <;> cases b <;> simp at ha
    rename_i x y
    have e : x = y := by simpa [PyData.eqv] using h
    subst e
    cases hf : row.findIdx? (· == x) with
    | none =>
      rw [hf] at ha
      simp at ha
    | some i =>
      rw [hf] at ha
      simp at ha
end Nb
namespace K06
open PySem L2 Nb
abbrev sFits : Stmt := topT 23
abbrev sSteps : Stmt := topT 24
abbrev sWalked : Stmt := topT 25
abbrev sNear : Stmt := topT 26
theorem scFits : FnScope ["_law_rows", "_law_thing", "_law_step", "_law_spot"] ["_law_rows", "_law_thing"] (defScope sFits) := ⟨rfl, rfl, rfl, by decide +kernel, rfl, by decide +kernel, by decide +kernel⟩
theorem scSteps : FnScope ["_law_rows", "_law_found", "_law_spot", "_law_row", "_law_at", "_law_item", "_law_far"] ["_law_rows"] (defScope sSteps) := ⟨rfl, rfl, rfl, by decide +kernel, rfl, by decide +kernel, by decide +kernel⟩
theorem scWalked : FnScope ["_law_source_here", "_law_steps", "_law_most", "_law_found", "_law_turn", "_law_step", "_law_some"] ["_law_source_here", "_law_steps", "_law_most"] (defScope sWalked) := ⟨rfl, rfl, rfl, by decide +kernel, rfl, by decide +kernel, by decide +kernel⟩
theorem scNear : FnScope ["_law_source_here", "_law_thing", "_law_some", "_law_at", "_law_x", "_law_y", "_law_spot", "_law_odd", "_law_step"] ["_law_source_here", "_law_thing"] (defScope sNear) := ⟨rfl, rfl, rfl, by decide +kernel, rfl, by decide +kernel, by decide +kernel⟩
section
variable {P : Program} {w : World} {K : PySem.W.Frag} {mg : Str → Option Value} {base : Heap}
theorem ok_fits {f fwithin : Addr} {fd fdW : FuncData} (F : Fun K "_law_clash_fits" "_law_clash_fits" sFits f fd) (T : Txt mg) (Fwithin : Fun K "_law_within" "_law_within" sWithin fwithin fdW) (bwithin : Binds K fdW ["_law_part", "_law_whole"] []) (gwithin : mg "_law_within" = some (.ref fwithin))
    (Gwithin : FnOk P w K mg base CX0 1 fwithin fdW ["_law_part", "_law_whole"] spWithin) : FnOk P w K mg base CX0 2 f fd ["_law_rows", "_law_thing"] spFits := by
  refine F.ok scFits (fun vs H Q E h => ?_) (fun cdv A outer s H vs Q E hr h => ?_)
  · obtain ⟨r, x, d, rows, rfl, _⟩ := h
    rfl
  · obtain ⟨r, x, d, rows, rfl, hR, hg, hl, hC, q⟩ := h
    refine ⟨_, pss_cons (ps_if (PW.pt (pw_or (pt_not (pt_val (pe_callB call_isi (by rfl) T.isinstance (by decide +kernel) (pa_cons (pv 1) (pa_cons (pe_bltn (v := .ty "tuple") (by rfl) T.tuple (by decide +kernel) rfl) pa_nil))))) (pw_or1 (pt_cmpR op_lt (pe_callB call_len_seq (by rfl) T.len PySem.boot_len (pa_cons (pv 1) pa_nil)) pe_int (nomark _))))) (pss_one (ps_ret pe_bl)) pss_nil)
        (pss_cons (ps_for PassesOwn.never rfl (pi_tup (pv 1)) (pg_name (i := 2) scFits.nd rfl (Or.inl rfl)) (pss_cons (ps_if (PW.pt (pw_or (pt_not (pt_val (pe_callB call_isi (by rfl) T.isinstance (by decide +kernel) (pa_cons (pv 2) (pa_cons (pe_bltn (v := .ty "tuple") (by rfl) T.tuple (by decide +kernel) rfl) pa_nil))))) (pw_or (pt_cmpR op_ne (pe_callB call_len_seq (by rfl) T.len PySem.boot_len (pa_cons (pv 2) pa_nil)) pe_int (nomark _)) (pw_or (pt_not (pt_val (pe_callB call_isi (by rfl) T.isinstance (by decide +kernel) (pa_cons (pe_ix ix_tup (pv 2) pe_int (fun _ _ => rfl)) (pa_cons (pe_bltn (v := .ty "int") (by rfl) T.int (by decide +kernel) rfl) pa_nil))))) (pw_or1 (pt_val (pe_callB call_isi (by rfl) T.isinstance (by decide +kernel) (pa_cons (pe_ix ix_tup (pv 2) pe_int (fun _ _ => rfl)) (pa_cons (pe_bltn (v := .ty "bool") (by rfl) T.bool (by decide +kernel) rfl) pa_nil))))))))) (pss_one (ps_ret pe_bl)) pss_nil)
        (pss_one (ps_if (PW.pt (pw_or (pt_not (pt_chain op_le op_lt pe_int (pe_ix ix_tup (pv 2) pe_int (fun _ _ => rfl)) (pe_callB call_len_seq (by rfl) T.len PySem.boot_len (pa_cons (pv 0) pa_nil)))) (pw_or (pt_cmpR (op_eqD hr.units) (pe_ix ix_tup (pv 2) pe_int (fun _ _ => rfl)) (pe_ix ix_tup (pv 2) pe_int (fun _ _ => rfl)) (nomark _)) (pw_or1 (pt_not (pt_val (pe_call Gwithin hr (by rfl) gwithin Fwithin.kp bwithin .nil pass0 (pa_cons (pe_slice sl_tup (pv 2) po_none (po_some pe_int)) (pa_cons (pe_ix ix_tup (pv 0) (pe_ix ix_tup (pv 2) pe_int (fun _ _ => rfl)) (fun _ _ => rfl)) pa_nil))))))))) (pss_one (ps_ret pe_bl)) pss_nil))))
        (pss_one (ps_ret (pe_cmpR (op_eqD hr.units) (pe_lc (own := [("_law_spot", 3)]) (g := gName 3) rfl scFits.nd (pi_range1 (by rfl) T.range (pa_cons (pe_callB call_len_seq (by rfl) T.len PySem.boot_len (pa_cons (pv 1) pa_nil)) pa_nil)) (blkOk_by (N := ["_law_rows", "_law_thing", "_law_step", "_law_spot"]) (sc := defScope sFits) (by decide +kernel)) (fun _ _ _ _ _ => (pg_name (i := 3) scFits.nd rfl (Or.inl rfl))) (fun _ _ _ _ _ => (pts_one (pt_cmpR op_ne (pe_ix (r := rIxT K) ix_tup (pe_ix (r := rIxT K) ix_tup (pv 1) (pe_op op_sub (pv 3) pe_int) (fun _ _ => rfl)) pe_int (fun _ _ => rfl)) (pe_ix (r := rIxT K) ix_tup (pe_ix (r := rIxT K) ix_tup (pv 1) (pv 3) (fun _ _ => rfl)) pe_int (fun _ _ => rfl)) (nomark _)))) (fun _ _ _ _ _ => (pv 3))) (pe_lst pa_nil) (nomark _))))), ?_⟩
    rcases hC with hT | ⟨rfl, a, rfl, hd⟩
    · cases hT with
      | tup e l hts =>
        rename_i a xs ds
        have ld := tds_len hts
        refine ⟨_, rfl, _, _, .type "tuple", _, true, rfl, .ty _, .base (.tup e), kit_ty (by decide +kernel), _, rfl, ?_⟩
        refine iteF ⟨_, rfl, a, xs, rfl, .inr (SqT.of e), _, _, rfl, rfl, _, rfl, ?_⟩
        refine ite2 (fun hlt => ?_) (fun hlt => ?_)
        · have h2x : (xs.length : Int) < 2 := of_decide_eq_true hlt
          have e3 : clashD rows (.tuple ds) = false := by
            rw [clash_tup, decide_eq_false (by omega)]
            rfl
          rw [← e3]
          exact q H (Same.refl H)
        · have h2x : 2 ≤ xs.length := by
            have : ¬ ((xs.length : Int) < 2) := fun z => hlt (decide_eq_true z)
            omega
          refine ⟨_, rfl, a, rfl, ⟨_, SqT.of e⟩, for_tup (K := K) (a := a) (xs := xs) (fun i σ H' => ∃ v2, σ = [some (.ref r), some (.ref a), v2, none] ∧ Same H H' ∧ (ds.take i).all (stepD rows) = true)
            ⟨_, rfl, Same.refl H, rfl⟩ (fun i σ H' _ ⟨_, _, s1, _⟩ => SqT.of (s1 _ _ e)) ?_ ?_⟩
          · rintro i y σ H1 hy ⟨v2, rfl, s1, hall⟩
            obtain ⟨dy, ey, ty⟩ := tds_get (tds_same s1 hts) hy
            have bad : stepD rows dy = false → ∀ H', Same H H' → Q (.bl false) H' := fun h H' s' => by
              have := q H' s'
              rw [bad_step ey h] at this
              exact this
            have good : stepD rows dy = true → (ds.take (i + 1)).all (stepD rows) = true := fun h => by
              rw [List.take_add_one, ey, List.all_append, hall]
              simp [h]
            cases ty with
            | tup e1 l1 ts =>
              rename_i b ys es
              refine ⟨_, rfl, _, _, .type "tuple", _, true, rfl, .ty _, .base (.tup e1), kit_ty (by decide +kernel), _, rfl, ?_⟩
              refine iteF ⟨_, rfl, b, ys, rfl, .inr (SqT.of e1), rfl, _, rfl, ?_⟩
              by_cases h3 : ys.length = 3
              · refine iteNS (by rw [h3]; rfl) ?_
                obtain ⟨y1, y2, y3, rfl⟩ : ∃ y1 y2 y3, ys = [y1, y2, y3] := by
                  match ys, h3 with
                  | [y1, y2, y3], _ => exact ⟨y1, y2, y3, rfl⟩
                cases ts with
                | cons k1 ts => cases ts with
                  | cons k2 ts => cases ts with
                    | cons k3 ts =>
                      cases ts
                      rename_i d1 d2 d3
                      obtain ⟨as, h1, h2⟩ := rowsF_same s1 hR
                      have las : as.length = rows.length := h2.1
                      have a2 : atI [y1, y2, y3] 2 = some y3 := atI_nat (j := 2) rfl
                      have third : (∀ k, d3 ≠ .int k) → stepD rows (.tuple [d1, d2, d3]) = false := fun hn => by
                        cases d3 with
                        | int k => exact absurd rfl (hn k)
                        | _ => rfl
                      cases k3 with
                      | int k =>
                        refine ⟨_, rfl, b, _, _, _, rfl, rfl, SqT.of e1, a2, _, _, .type "int", _, true, rfl, .ty _, .base (.int k), kit_ty (by decide +kernel), _, rfl, ?_⟩
                        refine iteF ⟨_, rfl, b, _, _, _, rfl, rfl, SqT.of e1, a2, _, _, .type "int", _, false, rfl, .ty _, .base (.int k), kit_ty (by decide +kernel), _, rfl, ?_⟩
                        refine iteF ⟨_, rfl, b, _, _, _, rfl, rfl, SqT.of e1, a2, _, _, rfl, rfl, _, rfl, ?_⟩
                        have key : stepD rows (.tuple [d1, d2, .int k]) = (ixD rows.length (.int k) && before (rows.getD k.toNat []) d1 d2) := rfl
                        by_cases h0 : 0 ≤ k
                        · rw [decide_eq_true h0]
                          refine iteT ⟨_, rfl, r, _, rfl, .inr (SqT.of h1), _, _, rfl, rfl, _, rfl, ?_⟩
                          rw [List.length_map, las]
                          by_cases hk : k < (rows.length : Nat)
                          · rw [decide_eq_true hk]
                            refine iteF ⟨_, rfl, b, _, _, y1, rfl, rfl, SqT.of e1, atI_nat (j := 0) rfl, _, rfl, b, _, _, y2, rfl, rfl, SqT.of e1, atI_nat (j := 1) rfl, d1, d2, (td_dp k1).1, (td_dp k2).1, td_shaped (K := K) k1 (by decide), td_shaped (K := K) k2 (by decide), _, rfl, ?_⟩
                            have hix : ixD rows.length (.int k) = true := by
                              show (decide (0 ≤ k) && decide (k < (rows.length : Nat))) = true
                              rw [decide_eq_true h0, decide_eq_true hk]
                              rfl
                            cases he : PyData.eqv d1 d2 with
                            | true =>
                              refine iteT (bad ?_ _ s1)
                              rw [key, before_ne he, Bool.and_false]
                            | false =>
                              obtain ⟨j, rfl⟩ : ∃ j : Nat, k = (j : Int) := ⟨_, (Int.toNat_of_nonneg h0).symm⟩
                              have hj : j < rows.length := by omega
                              have hja : j < as.length := by omega
                              have er : rows[j]? = some rows[j] := List.getElem?_eq_getElem hj
                              obtain ⟨ob, eo, tob⟩ := h2.2 j as[j] rows[j] (List.getElem?_eq_getElem hja) er
                              refine iteF ⟨_, rfl, 2, rfl, b, _, rfl, SqT.of e1, (by intro z; have z2 : (2 : Nat) = 3 := z.2; exact absurd z2 (by decide)), fun p hp => ?_⟩
                              have s2 : Same H1 (upd H1 p (.tup (cutV [y1, y2, .int (j : Int)] none (some 2)))) := same_new hp
                              refine ⟨_, rfl, _, rfl, b, _, _, .int (j : Int), rfl, rfl, SqT.of (s2 _ _ e1), atI_nat (j := 2) rfl, r, _, _, .ref as[j], rfl, rfl, SqT.of (s2 _ _ h1), atI_nat (by rw [List.getElem?_map, List.getElem?_eq_getElem hja]; rfl), ?_⟩
                              refine ⟨p, as[j], y1, y2, d1, d2, rows[j], rfl, upd_same, td_up (td_same s2 k1), td_up (td_same s2 k2), ⟨ob, s2 _ _ eo, tob⟩, hg _ (List.getElem_mem hj), fun H3 s3 => ⟨_, rfl, ?_⟩⟩
                              have key2 : stepD rows (.tuple [d1, d2, .int (j : Int)]) = before rows[j] d1 d2 := by
                                rw [key, hix, Bool.true_and, Int.toNat_natCast, List.getD_eq_getElem?_getD, er]
                                rfl
                              have s13 := s1.trans (s2.trans s3)
                              cases hb : before rows[j] d1 d2 with
                              | true => exact iteF ⟨_, rfl, s13, good (key2.trans hb)⟩
                              | false => exact iteT (bad (key2.trans hb) _ s13)
                          · rw [decide_eq_false hk]
                            refine iteT (bad ?_ _ s1)
                            have hix : ixD rows.length (.int k) = false := by
                              show (decide (0 ≤ k) && decide (k < (rows.length : Nat))) = false
                              rw [decide_eq_false hk, Bool.and_false]
                            rw [key, hix, Bool.false_and]
                        · rw [decide_eq_false h0]
                          refine iteF ⟨_, rfl, ?_⟩
                          refine iteT (bad ?_ _ s1)
                          have hix : ixD rows.length (.int k) = false := by
                            show (decide (0 ≤ k) && decide (k < (rows.length : Nat))) = false
                            rw [decide_eq_false h0, Bool.false_and]
                          rw [key, hix, Bool.false_and]
                      | bl c =>
                        refine ⟨_, rfl, b, _, _, _, rfl, rfl, SqT.of e1, a2, _, _, .type "bool", _, true, rfl, .ty _, .base (.bl c), kit_ty (by decide +kernel), _, rfl, ?_⟩
                        refine iteF ⟨_, rfl, b, _, _, _, rfl, rfl, SqT.of e1, a2, _, _, .type "bool", _, true, rfl, .ty _, .base (.bl c), kit_ty (by decide +kernel), _, rfl, ?_⟩
                        exact iteT (bad (third fun k z => by cases z) _ s1)
                      | non =>
                        refine ⟨_, rfl, b, _, _, _, rfl, rfl, SqT.of e1, a2, _, _, .type "NoneType", _, false, rfl, .ty _, .base .non, kit_ty (by decide +kernel), _, rfl, ?_⟩
                        exact iteT (bad (third fun k z => by cases z) _ s1)
                      | str hh =>
                        refine ⟨_, rfl, b, _, _, _, rfl, rfl, SqT.of e1, a2, _, _, .type "str", _, false, rfl, .ty _, .base (.str _), kit_ty (by decide +kernel), _, rfl, ?_⟩
                        exact iteT (bad (third fun k z => by cases z) _ s1)
                      | lst e2 l2 hh =>
                        refine ⟨_, rfl, b, _, _, _, rfl, rfl, SqT.of e1, a2, _, _, .type "list", _, false, rfl, .ty _, .base (.lst e2), kit_ty (by decide +kernel), _, rfl, ?_⟩
                        exact iteT (bad (third fun k z => by cases z) _ s1)
                      | tup e2 l2 hh =>
                        refine ⟨_, rfl, b, _, _, _, rfl, rfl, SqT.of e1, a2, _, _, .type "tuple", _, false, rfl, .ty _, .base (.tup e2), kit_ty (by decide +kernel), _, rfl, ?_⟩
                        exact iteT (bad (third fun k z => by cases z) _ s1)
              · refine (show (if (!decide (V.int (ys.length : Nat) = V.int 3)) = true then _ else _) from ?_)
                rw [decide_eq_false (fun z => h3 (by have := V.int.inj z; omega))]
                refine iteT (bad ?_ _ s1)
                have hl := tds_len ts
                match es, hl with
                | [], _ => rfl
                | [_], _ => rfl
                | [_, _], _ => rfl
                | [_, _, _], hl => exact absurd hl h3
                | _ :: _ :: c :: _ :: _, _ => cases c <;> rfl
            | non =>
              refine ⟨_, rfl, _, _, .type "NoneType", _, false, rfl, .ty _, .base .non, kit_ty (by decide +kernel), _, rfl, ?_⟩
              exact iteT (bad rfl _ s1)
            | bl b =>
              refine ⟨_, rfl, _, _, .type "bool", _, false, rfl, .ty _, .base (.bl b), kit_ty (by decide +kernel), _, rfl, ?_⟩
              exact iteT (bad rfl _ s1)
            | int i =>
              refine ⟨_, rfl, _, _, .type "int", _, false, rfl, .ty _, .base (.int i), kit_ty (by decide +kernel), _, rfl, ?_⟩
              exact iteT (bad rfl _ s1)
            | str h =>
              refine ⟨_, rfl, _, _, .type "str", _, false, rfl, .ty _, .base (.str _), kit_ty (by decide +kernel), _, rfl, ?_⟩
              exact iteT (bad rfl _ s1)
            | lst e l h =>
              refine ⟨_, rfl, _, _, .type "list", _, false, rfl, .ty _, .base (.lst e), kit_ty (by decide +kernel), _, rfl, ?_⟩
              exact iteT (bad rfl _ s1)
          · rintro σ H1 ⟨v2, rfl, s1, hall⟩
            rw [ld, List.take_length] at hall
            have e1 := s1 _ _ e
            have hts1 := tds_same s1 hts
            have form : ∀ (j : Nat) (v : V), xs[j]? = some v → ∃ b x y k, v = .ref b ∧ ds[j]? = some (.tuple [.str x, .str y, .int k]) ∧ H1 b = some (.tup [.str x, .str y, .int k]) := fun j v hv => by
              obtain ⟨dv, ev, tv⟩ := tds_get hts1 hv
              have hs := List.all_eq_true.mp hall dv (List.mem_of_getElem? ev)
              obtain ⟨b, x, y, k, r1, r2, r3⟩ := step_form hs tv
              exact ⟨b, x, y, k, r1, r2 ▸ ev, r3⟩
            refine ⟨_, rfl, a, xs, rfl, .inr (SqT.of e1), _, rfl, by omega, by omega, fun D hD => ?_⟩
            refine lc_range (lo := 0) (n := ((xs.length : Nat) : Int).toNat) (fun i H3 => Same H1 H3 ∧ H3 D = some (.lst ((((List.range i).filter fun j => !ringP ds j).map fun j => ((j : Nat) : Int)).map V.int))) ⟨same_new hD, upd_same⟩ (fun i H3 hi ⟨s4, e4⟩ => ?_) (fun H3 ⟨s4, e4⟩ => ?_)
            · have hi2 : i < xs.length := by simpa using hi
              have hp : (if i = 0 then xs.length - 1 else i - 1) < xs.length := by
                split <;> omega
              obtain ⟨b1, x1, y1, k1, v1, w1, u1⟩ := form _ _ (List.getElem?_eq_getElem hp)
              obtain ⟨b2, x2, y2, k2, v2', w2, u2⟩ := form _ _ (List.getElem?_eq_getElem hi2)
              have sq := SqT.of (K := K) (s4 _ _ e1)
              have e5 : ringP ds i = decide (V.str y1 = V.str x2) := by
                unfold ringP
                rw [← ld, List.getD_eq_getElem?_getD, List.getD_eq_getElem?_getD, w1, w2, Bool.eq_iff_iff]
                simp [sndD, fstD, strD]
                exact ⟨fun h => of_decide_eq_true h, fun h => decide_eq_true h⟩
              have sm : ((((List.range i).filter fun j => !ringP ds j).map fun j => ((j : Nat) : Int)).map V.int).length < sizeLine := by
                rw [List.length_map, List.length_map]
                have h2 := List.length_filter_le (fun j => !ringP ds j) (List.range i)
                rw [List.length_range] at h2
                exact small1000 (by omega)
              refine ⟨rfl, _, rfl, _, rfl, _, _, rfl, rfl, a, xs, _, _, rfl, rfl, sq, (by rw [Int.zero_add, at_prev hi2, List.getElem?_eq_getElem hp, v1]), b1, _, 1, .str y1, rfl, rfl, SqT.of (s4 _ _ u1), atI_nat (j := 1) rfl,
                _, rfl, _, rfl, a, xs, _, _, rfl, rfl, sq, (by rw [Int.zero_add]; exact atI_nat (by rw [List.getElem?_eq_getElem hi2, v2'])), b2, _, 0, .str x2, rfl, rfl, SqT.of (s4 _ _ u2), atI_nat (j := 0) rfl, rfl, _, rfl, ?_⟩
              have more : (((List.range (i + 1)).filter fun j => !ringP ds j).map fun j => ((j : Nat) : Int)).map V.int = (((List.range i).filter fun j => !ringP ds j).map fun j => ((j : Nat) : Int)).map V.int ++ (if ringP ds i then [] else [V.int (i : Nat)]) := by
                rw [List.range_succ, List.filter_append]
                cases hh : ringP ds i <;> simp [hh]
              cases hr5 : decide (V.str y1 = V.str x2) with
              | false =>
                refine iteT ⟨_, rfl, _, e4, sm, fun c u ec => ?_, ?_⟩
                · rw [upd_ne (ne_of_none ec hD)]
                  exact s4 _ _ ec
                · rw [upd_same, more, e5, hr5, Int.zero_add]
                  rfl
              | true =>
                refine iteF ⟨s4, ?_⟩
                rw [e4, more, e5, hr5]
                simp
            · refine ⟨Nat.zero_le _, fun D3 hD3 => ?_⟩
              have s3 : Same H3 (upd H3 D3 (.lst [])) := same_new hD3
              refine ⟨.list ((((List.range ((xs.length : Nat) : Int).toNat).filter fun j => !ringP ds j).map fun j => ((j : Nat) : Int)).map PyData.int), .list [], .lst (s3.seq (SqL.of e4)) (dps_ints _), .lst (SqL.of upd_same) .nil, (fine_ints _).shaped (by decide), by decide, ?_⟩
              rw [eqv_nil]
              have e5 : ((((List.range ((xs.length : Nat) : Int).toNat).filter fun j => !ringP ds j).map fun j => ((j : Nat) : Int)).map PyData.int).isEmpty = clashD rows (.tuple ds) := by
                rw [List.isEmpty_map, List.isEmpty_map, all_filter, clash_tup, hall, decide_eq_true (by omega), Int.toNat_natCast, ld]
                rfl
              rw [e5]
              exact q _ ((s1.trans s4).trans s3)
      | non =>
        refine ⟨_, rfl, _, _, .type "NoneType", _, false, rfl, .ty _, .base .non, kit_ty (by decide +kernel), _, rfl, ?_⟩
        exact iteT (q H (Same.refl H))
      | bl b =>
        refine ⟨_, rfl, _, _, .type "bool", _, false, rfl, .ty _, .base (.bl b), kit_ty (by decide +kernel), _, rfl, ?_⟩
        exact iteT (q H (Same.refl H))
      | int i =>
        refine ⟨_, rfl, _, _, .type "int", _, false, rfl, .ty _, .base (.int i), kit_ty (by decide +kernel), _, rfl, ?_⟩
        exact iteT (q H (Same.refl H))
      | str h =>
        refine ⟨_, rfl, _, _, .type "str", _, false, rfl, .ty _, .base (.str _), kit_ty (by decide +kernel), _, rfl, ?_⟩
        exact iteT (q H (Same.refl H))
      | lst e l h =>
        refine ⟨_, rfl, _, _, .type "list", _, false, rfl, .ty _, .base (.lst e), kit_ty (by decide +kernel), _, rfl, ?_⟩
        exact iteT (q H (Same.refl H))
    · refine ⟨_, rfl, _, _, .type "dict", _, false, rfl, .ty _, .base (.dK hd), kit_ty (by decide +kernel), _, rfl, ?_⟩
      exact iteT (q H (Same.refl H))
end
end K06

set_option Elab.async false
set_option maxRecDepth 100000
set_option maxHeartbeats 4000000
namespace Nb
open PySem L2
def StepV (H : Hp) (v : V) : Prop := ∃ a x y k, v = .ref a ∧ H a = some (.tup [.str x, .str y, .int k]) ∧ Word x ∧ Word y
theorem stepV_same {H H' : Hp} (s : Same H H') {v : V} (h : StepV H v) : StepV H' v :=
  let ⟨a, x, y, k, e, h1, h2, h3⟩ := h; ⟨a, x, y, k, e, s _ _ h1, h2, h3⟩
theorem stepV_upd {H : Hp} {D : Addr} {o u : HO} (e : H D = some u) (d : ∀ xs, u ≠ .tup xs) {v : V} (h : StepV H v) : StepV (upd H D o) v := by
  obtain ⟨a, x, y, k, ev, h1, h2, h3⟩ := h
  have n : a ≠ D := fun z => by
    rw [z, e] at h1
    exact d _ (Option.some.inj h1)
  exact ⟨a, x, y, k, ev, by rw [upd_ne n]; exact h1, h2, h3⟩
theorem stepV_td {H : Hp} {v : V} (h : StepV H v) (n : Nat) : ∃ d, Td H (n + 1) v d := by
  obtain ⟨a, x, y, k, rfl, h1, h2, h3⟩ := h
  exact ⟨_, .tup h1 (by show 3 ≤ 1000; decide) (.cons (.str h2) (.cons (.str h3) (.cons (.int k) .nil)))⟩
theorem noPart {σ : St} {H : Hp} {Q : Option Int → Hp → Prop} (h : Q none H) : tNoPart σ H Q := h
theorem cut_whole {xs : List V} {lo hi : Option Int} (h : HT.sIx xs.length 0 lo = 0 ∧ HT.sIx xs.length xs.length hi = xs.length) : cutV xs lo hi = xs := by
  unfold cutV
  rw [h.1, h.2]
  simp
theorem cutS_tup {K : PySem.W.Frag} {H : Hp} {a : Addr} {xs : List V} {lo hi : Option Int} {Q : VK} (ha : SqT K H a xs) (h : ∀ p H', Same H H' → SqT K H' p (cutV xs lo hi) → Q (.ref p) H') : rSlA K (.ref a) lo hi H Q :=
  ⟨a, xs, rfl, ha, fun w => h a H (Same.refl H) (by rw [cut_whole w]; exact ha), fun _ p hp => h p _ (same_new hp) (SqT.of upd_same)⟩
theorem cutT_tup {K : PySem.W.Frag} {H : Hp} {a : Addr} {xs : List V} {lo hi : Option Int} {Q : VK} (ha : H a = some (.tup xs)) (h : ∀ p H', Same H H' → H' p = some (.tup (cutV xs lo hi)) → Q (.ref p) H') : rSlA K (.ref a) lo hi H Q :=
  ⟨a, xs, rfl, SqT.of ha, fun w => h a H (Same.refl H) (by rw [cut_whole w]; exact ha), fun _ p hp => h p _ (same_new hp) upd_same⟩
theorem catT_tup {K : PySem.W.Frag} {H : Hp} {a b : Addr} {xs ys : List V} {Q : VK} (ha : H a = some (.tup xs)) (hb : H b = some (.tup ys)) (hl : xs.length + ys.length ≤ 2000) (h : ∀ p H', Same H H' → H' p = some (.tup (xs ++ ys)) → Q (.ref p) H') : rCatA K (.ref a) (.ref b) H Q := by
  refine ⟨a, b, xs, ys, rfl, rfl, SqT.of ha, SqT.of hb, Nat.le_trans hl (by decide), fun e => ?_, fun _ e => ?_, fun _ _ p hp => h p _ (same_new hp) upd_same⟩
  · subst e
    exact h b H (Same.refl H) hb
  · subst e
    exact h a H (Same.refl H) (by rw [List.append_nil]; exact ha)
/-- all steps of the rows, as a new list -/
def spSteps : Sp := fun vs H Q _ => ∃ (r : Addr) (rows : List (List Str)), vs = [.ref r] ∧ RowsF H r rows ∧ (∀ row ∈ rows, GoodRow row) ∧ rows.length ≤ 10 ∧
  ∀ (H' : Hp) (l : Addr) (us : List V), Same H H' → H l = none → H' l = some (.lst us) → us.length ≤ 900 → (∀ v ∈ us, StepV H' v) → Q (.ref l) H'
def spWalked : Sp := fun vs H Q _ => ∃ (p l : Addr) (us : List V) (m b : Nat) (F : Hp), vs = [.ref p, .ref l, .int m] ∧ F l = some (.lst us) ∧ us.length ≤ 900 ∧ (∀ v ∈ us, StepV F v) ∧ m ≤ 10 ∧ Src H p b ∧ b ≤ 800000 ∧ F p = none ∧ Same F H ∧
  ∀ (H' : Hp) (t : Addr) (ws : List V), Same F H' → H' t = some (.tup ws) → ws.length ≤ 10 → (∀ v ∈ ws, StepV H' v) → Src H' p (b + m) → Q (.ref t) H'
def spNear : Sp := fun vs H Q _ => ∃ (p t : Addr) (ws : List V) (b : Nat) (F : Hp), vs = [.ref p, .ref t] ∧ F t = some (.tup ws) ∧ ws.length ≤ 10 ∧ (∀ v ∈ ws, StepV F v) ∧ Src H p b ∧ b ≤ 800000 ∧ F p = none ∧ Same F H ∧
  ∀ (H' : Hp) (l : Addr) (us : List V), Same F H' → l ≠ p → H' l = some (.lst us) → us.length ≤ 30 → (∀ v ∈ us, ∃ d, Td (del H' p) 8 v d) → Src H' p (b + 1) → Q (.ref l) H'
def Tq (H : Hp) (n : Nat) (v : V) : Prop := ∃ d, Td H n v d
theorem tq_same {H H' : Hp} (s : Same H H') {n : Nat} {v : V} (h : Tq H n v) : Tq H' n v := let ⟨d, k⟩ := h; ⟨d, td_same s k⟩
theorem tq_up {H : Hp} {n : Nat} {v : V} (h : Tq H n v) : Tq H (n + 1) v := let ⟨d, k⟩ := h; ⟨d, td_up k⟩
theorem tq_le {H : Hp} {v : V} {n : Nat} (h : Tq H n v) : ∀ k, Tq H (n + k) v
  | 0 => h
  | k + 1 => tq_up (tq_le h k)
theorem tq_tup {H : Hp} {n : Nat} {a : Addr} {xs : List V} (e : H a = some (.tup xs)) (l : xs.length ≤ 1000) (h : ∀ v ∈ xs, Tq H n v) : Tq H (n + 1) (.ref a) := let ⟨_, k⟩ := tds_ex h; ⟨_, .tup e l k⟩
theorem tq_lst {H : Hp} {n : Nat} {a : Addr} {xs : List V} (e : H a = some (.lst xs)) (l : xs.length ≤ 1000) (h : ∀ v ∈ xs, Tq H n v) : Tq H (n + 1) (.ref a) := let ⟨_, k⟩ := tds_ex h; ⟨_, .lst e l k⟩
theorem stepV_tq {H : Hp} {v : V} (h : StepV H v) (n : Nat) : Tq H (n + 1) v := stepV_td h n
theorem cut_sub (xs : List V) (lo hi : Option Int) : (cutV xs lo hi).Sublist xs := by
  unfold cutV
  exact (List.take_sublist _ _).trans (List.drop_sublist _ _)
theorem eqv_nilT (ds : List PyData) : PyData.eqv (.tuple ds) (.tuple []) = ds.isEmpty := by
  cases ds <;> simp [PyData.eqv, PyData.eqvAll]
theorem stepsT {H H' : Hp} (s : Same H H') {a : Addr} {ws xs : List V} (e : H' a = some (.tup xs)) (hw : ∀ v ∈ ws, StepV H v) (sub : ∀ v ∈ xs, v ∈ ws) (l : xs.length ≤ 1000) : Tq H' 3 (.ref a) :=
  tq_tup e l fun v hv => stepV_tq (stepV_same s (hw v (sub v hv))) 1
section
variable {H : Hp} {n : Nat} {a : Addr} {u v w x : V}
theorem tqS {z : Str} (h : Word z) : Tq H n (.str z) := ⟨_, .str h⟩
theorem tqI (i : Int) : Tq H n (.int i) := ⟨_, .int i⟩
theorem tqN : Tq H n .non := ⟨_, .non⟩
theorem tqB (b : Bool) : Tq H n (.bl b) := ⟨_, .bl b⟩
theorem tq0 (e : H a = some (.tup [])) : Tq H (n + 1) (.ref a) := ⟨_, .tup e (by decide) .nil⟩
theorem tq2 (e : H a = some (.tup [u, v])) (h1 : Tq H n u) (h2 : Tq H n v) : Tq H (n + 1) (.ref a) := let ⟨_, k1⟩ := h1; let ⟨_, k2⟩ := h2; ⟨_, .tup e (by show 2 ≤ 1000; decide) (.cons k1 (.cons k2 .nil))⟩
theorem tq3 (e : H a = some (.tup [u, v, w])) (h1 : Tq H n u) (h2 : Tq H n v) (h3 : Tq H n w) : Tq H (n + 1) (.ref a) := let ⟨_, k1⟩ := h1; let ⟨_, k2⟩ := h2; let ⟨_, k3⟩ := h3; ⟨_, .tup e (by show 3 ≤ 1000; decide) (.cons k1 (.cons k2 (.cons k3 .nil)))⟩
theorem tq4 (e : H a = some (.tup [u, v, w, x])) (h1 : Tq H n u) (h2 : Tq H n v) (h3 : Tq H n w) (h4 : Tq H n x) : Tq H (n + 1) (.ref a) := let ⟨_, k1⟩ := h1; let ⟨_, k2⟩ := h2; let ⟨_, k3⟩ := h3; let ⟨_, k4⟩ := h4; ⟨_, .tup e (by show 4 ≤ 1000; decide) (.cons k1 (.cons k2 (.cons k3 (.cons k4 .nil))))⟩
theorem tl1 (e : H a = some (.lst [u])) (h1 : Tq H n u) : Tq H (n + 1) (.ref a) := let ⟨_, k1⟩ := h1; ⟨_, .lst e (by show 1 ≤ 1000; decide) (.cons k1 .nil)⟩
theorem tl3 (e : H a = some (.lst [u, v, w])) (h1 : Tq H n u) (h2 : Tq H n v) (h3 : Tq H n w) : Tq H (n + 1) (.ref a) := let ⟨_, k1⟩ := h1; let ⟨_, k2⟩ := h2; let ⟨_, k3⟩ := h3; ⟨_, .lst e (by show 3 ≤ 1000; decide) (.cons k1 (.cons k2 (.cons k3 .nil)))⟩
end
/-- a tuple, its items from the heap C -/
def RowV (C H : Hp) (v : V) : Prop := ∃ a xs, v = .ref a ∧ H a = some (.tup xs) ∧ xs.length ≤ 1000 ∧ ∀ x ∈ xs, Tq C 3 x
theorem rowV_same {C H H' : Hp} (s : Same H H') {v : V} (h : RowV C H v) : RowV C H' v := let ⟨a, xs, e, h1, h2⟩ := h; ⟨a, xs, e, s _ _ h1, h2⟩
theorem rowV_at {C H : Hp} {D : Addr} {o u : HO} (e : H D = some u) (d : ∀ xs, u ≠ .tup xs) {v : V} (h : RowV C H v) : RowV C (upd H D o) v := by
  obtain ⟨a, xs, ev, h1, h2⟩ := h
  have n : a ≠ D := fun z => by
    rw [z, e] at h1
    exact d _ (Option.some.inj h1)
  exact ⟨a, xs, ev, by rw [upd_ne n]; exact h1, h2⟩
theorem rowV_tq {C H : Hp} (s : Same C H) {v : V} (h : RowV C H v) : Tq H 4 v := by
  obtain ⟨a, xs, rfl, h1, h2, h3⟩ := h
  exact tq_tup h1 h2 fun x hx => tq_same s (h3 x hx)
theorem upd_of {H : Hp} {a : Addr} {o : HO} (h : H a = none) : (upd H a o) a = some o := upd_same
theorem del_tup {H : Hp} {p a : Addr} {b : Nat} {xs : List V} (S : Src H p b) (e : H a = some (.tup xs)) : del H p a = some (.tup xs) := by
  rw [del_ne (src_ne S e (fun xs z => by cases z))]
  exact e
theorem del_lstS {H : Hp} {p a : Addr} {b : Nat} {x : Str} {xs : List V} (S : Src H p b) (e : H a = some (.lst (.str x :: xs))) : del H p a = some (.lst (.str x :: xs)) := by
  have n : a ≠ p := fun z => by
    obtain ⟨c, m, r, e2, _⟩ := S
    rw [z, e2] at e
    cases e
  rw [del_ne n]
  exact e
theorem rowV_tqD {C H : Hp} {p : Addr} {b : Nat} (S : Src H p b) (s : Same C (del H p)) {v : V} (h : RowV C H v) : Tq (del H p) 4 v := by
  obtain ⟨a, xs, rfl, h1, h2, h3⟩ := h
  exact tq_tup (del_tup S h1) h2 fun x hx => tq_same s (h3 x hx)
theorem del_up {H H' : Hp} {p : Addr} (s : Same H H') : Same (del H p) (del H' p) := same_del (del_same.trans s) del_at
theorem last_at {xs : List V} (h : xs ≠ []) : ∃ v, atI xs (-1) = some v ∧ v ∈ xs := by
  have h0 : 0 < xs.length := List.length_pos_iff.mpr h
  have e := K06.at_prev (xs := xs) (j := 0) h0
  rw [if_pos rfl, List.getElem?_eq_getElem (by omega)] at e
  exact ⟨_, e, List.getElem_mem _⟩
end Nb
namespace K06
open PySem L2 Nb
section
variable {P : Program} {w : World} {K : PySem.W.Frag} {mg : Str → Option Value} {base : Heap}
theorem ok_steps {f : Addr} {fd : FuncData} (F : Fun K "_law_tuple_steps" "_law_tuple_steps" sSteps f fd) (T : Txt mg) : FnOk P w K mg base CX0 1 f fd ["_law_rows"] spSteps := by
  refine F.ok scSteps (fun vs H Q E h => ?_) (fun cdv A outer s H vs Q E hr h => ?_)
  · obtain ⟨r, rows, rfl, _⟩ := h
    rfl
  · obtain ⟨r, rows, rfl, hR, hg, hl, q⟩ := h
    refine ⟨_, pss_cons (ps_set (i := 1) scSteps.nd rfl (Or.inl rfl) (pe_lst pa_nil))
        (pss_cons (ps_for PassesOwn.never rfl (pi_enumT (by rfl) T.enumerate (pa_cons (pv 0) pa_nil)) (pg_tup rfl (pgs_cons (pg_name (i := 2) scSteps.nd rfl (Or.inr rfl)) (pgs_cons (pg_name (i := 3) scSteps.nd rfl (Or.inl rfl)) pgs_nil))) (pss_one (ps_for PassesOwn.never rfl (pi_enumT (by rfl) T.enumerate (pa_cons (pv 3) pa_nil)) (pg_tup rfl (pgs_cons (pg_name (i := 4) scSteps.nd rfl (Or.inl rfl)) (pgs_cons (pg_name (i := 5) scSteps.nd rfl (Or.inr rfl)) pgs_nil))) (pss_one (ps_set (i := 1) scSteps.nd rfl (Or.inl rfl) (pe_op op_cat (pv 1) (pe_lc (own := [("_law_far", 6)]) (g := gName 6) (tt := tYes) rfl scSteps.nd (pi_tup (pe_slice sl_tupA (pv 3) (po_some (pe_op op_add (pv 4) pe_int)) po_none)) (blkOk_by (N := ["_law_rows", "_law_found", "_law_spot", "_law_row", "_law_at", "_law_item", "_law_far"]) (sc := defScope sSteps) (by decide +kernel)) (fun _ _ _ _ _ => (pg_name (i := 6) scSteps.nd rfl (Or.inl rfl))) (fun _ _ _ _ _ => pts_nil) (fun _ _ _ _ _ => (pe_tup (pa_cons (pv 5) (pa_cons (pv 6) (pa_cons (pv 2) pa_nil))))))))))))
        (pss_one (ps_ret (pv 1)))), ?_⟩
    obtain ⟨as, h1, h2⟩ := id hR
    have las : as.length = rows.length := h2.1
    refine ⟨Nat.zero_le _, fun f0 hf0 => ?_⟩
    refine ⟨_, rfl, r, _, rfl, SqT.of (same_new hf0 _ _ h1), for_it (walk_enumT (K := K) (a := r) (xs := as.map V.ref)) (fun i σ H' => ∃ v2 v3 v4 v5 f1 L, σ = [some (.ref r), some (.ref f1), v2, v3, v4, v5, none] ∧ Same H H' ∧ H f1 = none ∧ H' f1 = some (.lst L) ∧ L.length ≤ 64 * i ∧ ∀ v ∈ L, StepV H' v)
      ⟨_, _, _, _, f0, [], rfl, same_new hf0, hf0, upd_same, Nat.le_refl _, fun v hv => by cases hv⟩ (fun i σ H' _ ⟨_, _, _, _, _, _, _, s1, _⟩ => SqT.of (s1 _ _ h1)) ?_ ?_⟩
    · rintro i x σ H1 H2 hi ⟨v2, v3, v4, v5, f1, L, rfl, s1, hf1, ef1, lL, hL⟩ ⟨t, x1, x2, rfl, new, rfl, e1, e2⟩
      have ex1 : x1 = .int (i : Nat) := (Option.some.inj e1).symm
      subst ex1
      have e2 : (as.map V.ref)[i]? = some x2 := e2
      rw [List.getElem?_map] at e2
      obtain ⟨a, ea, rfl⟩ : ∃ a, as[i]? = some a ∧ x2 = .ref a := by
        cases e : as[i]? with
        | none =>
          rw [e] at e2
          cases e2
        | some a =>
          rw [e] at e2
          exact ⟨a, rfl, (Option.some.inj e2).symm⟩
      have hia : i < as.length := (List.getElem?_eq_some_iff.mp ea).1
      have hil : i < rows.length := by omega
      have er : rows[i]? = some rows[i] := List.getElem?_eq_getElem hil
      have gr := hg rows[i] (List.getElem_mem hil)
      obtain ⟨ob, eo, tob⟩ := h2.2 i a rows[i] ea er
      have n1 : Same H1 (upd H1 t (.tup [.int (i : Nat), .ref a])) := same_new new
      have s2 : Same H (upd H1 t (.tup [.int (i : Nat), .ref a])) := s1.trans n1
      refine ⟨t, [.int (i : Nat), .ref a], rfl, .inl (.inl upd_same), rfl, .int (i : Nat), [.ref a], rfl, .ref a, [], rfl, rfl, ?_⟩
      refine ⟨_, rfl, a, _, rfl, .inl (.inr ⟨ob, s2 _ _ eo⟩), for_it (walk_enumT (K := K) (a := a) (xs := rows[i].map V.str)) (fun j σ H' => ∃ v4 v5 f1 L, σ = [some (.ref r), some (.ref f1), some (.int (i : Nat)), some (.ref a), v4, v5, none] ∧ Same H H' ∧ H f1 = none ∧ H' f1 = some (.lst L) ∧ L.length ≤ 64 * i + 8 * j ∧ ∀ v ∈ L, StepV H' v)
        ⟨_, _, f1, L, rfl, s2, hf1, n1 _ _ ef1, by omega, fun v hv => stepV_same n1 (hL v hv)⟩ (fun j σ H' _ ⟨_, _, _, _, _, s3, _⟩ => .inl (.inr ⟨ob, s3 _ _ eo⟩)) ?_ ?_⟩
      · rintro j y σ H3 H4 hj ⟨w4, w5, f2, M, rfl, s3, hf2, ef2, lM, hM⟩ ⟨t2, z1, z2, rfl, new2, rfl, e3, e4⟩
        have ez1 : z1 = .int (j : Nat) := (Option.some.inj e3).symm
        subst ez1
        have e4 : (rows[i].map V.str)[j]? = some z2 := e4
        rw [List.getElem?_map] at e4
        obtain ⟨z, ez, rfl⟩ : ∃ z, rows[i][j]? = some z ∧ z2 = .str z := by
          cases e : rows[i][j]? with
          | none =>
            rw [e] at e4
            cases e4
          | some z =>
            rw [e] at e4
            exact ⟨z, rfl, (Option.some.inj e4).symm⟩
        have hz : z ∈ rows[i] := List.mem_of_getElem? ez
        have n2 : Same H3 (upd H3 t2 (.tup [.int (j : Nat), .str z])) := same_new new2
        refine ⟨t2, [.int (j : Nat), .str z], rfl, .inl (.inl upd_same), rfl, .int (j : Nat), [.str z], rfl, .str z, [], rfl, rfl, ?_⟩
        have s4 : Same H (upd H3 t2 (.tup [.int (j : Nat), .str z])) := s3.trans n2
        refine ⟨_, rfl, _, rfl, _, rfl, _, _, rfl, rfl, _, rfl, ?_⟩
        refine noPart ?_
        refine cutS_tup (.inl (.inr ⟨ob, s4 _ _ eo⟩)) (fun c H5 s5 ec => ?_)
        obtain ⟨us, eus, sub⟩ := cut_strs rows[i] (some ((j : Int) + 1)) none
        rw [eus] at ec
        refine ⟨c, rfl, ⟨_, ec⟩, fun D hD => ?_⟩
        have s35 := n2.trans s5
        have ef5 := s35 _ _ ef2
        have nfD : f2 ≠ D := ne_of_none ef5 hD
        have l8 : us.length ≤ 8 := Nat.le_trans sub.length_le gr.2.2
        refine lc_tup (K := K) (a := c) (xs := us.map V.str) (fun k H6 => Same H5 H6 ∧ ∃ N, H6 D = some (.lst N) ∧ N.length = k ∧ ∀ v ∈ N, StepV H6 v) ⟨same_new hD, [], upd_same, rfl, fun v hv => by cases hv⟩ (fun k H6 _ ⟨s6, _⟩ => Nb.Same.tup s6 ec) (fun k y H6 hy ⟨s6, N, eN, lN, hN⟩ => ?_) (fun H6 ⟨s6, N, eN, lN, hN⟩ => ?_)
        · rw [List.getElem?_map] at hy
          obtain ⟨u, eu, rfl⟩ : ∃ u, us[k]? = some u ∧ y = .str u := by
            cases e : us[k]? with
            | none =>
              rw [e] at hy
              cases hy
            | some u =>
              rw [e] at hy
              exact ⟨u, rfl, (Option.some.inj hy).symm⟩
          have hu : u ∈ rows[i] := sub.subset (List.mem_of_getElem? eu)
          have hk8 : k < us.length := (List.getElem?_eq_some_iff.mp eu).1
          refine ⟨rfl, _, rfl, _, rfl, _, rfl, (by show 3 ≤ sizeLine; decide), fun q1 hq1 => ?_⟩
          have n6 : Same H6 (upd H6 q1 (.tup [.str z, .str u, .int (i : Nat)])) := same_new hq1
          have nDq : D ≠ q1 := ne_of_none eN hq1
          have eN' := n6 _ _ eN
          refine ⟨N, eN', small1000 (by omega), fun b o e => ?_, N ++ [.ref q1], upd_same, by simp [lN], fun v hv => ?_⟩
          · rw [upd_ne (ne_of_none e hD)]
            exact n6 _ _ (s6 _ _ e)
          · refine stepV_upd eN' (fun xs z => by cases z) ?_
            rcases List.mem_append.mp hv with hv | hv
            · exact stepV_same n6 (hN v hv)
            · rw [List.mem_singleton.mp hv]
              exact ⟨q1, z, u, (i : Nat), rfl, upd_same, (gr.2.1 z hz).2, (gr.2.1 u hu).2⟩
        · have s36 := s35.trans s6
          have ef6 := s36 _ _ ef2
          rw [List.length_map] at lN
          have hj8 : j < 8 := by
            have h8 := gr.2.2
            have : j < rows[i].length := by simpa using hj
            omega
          refine ⟨f2, D, M, N, rfl, rfl, ef6, eN, Nat.le_of_lt (small1000 (by omega)), fun g hg2 => ?_⟩
          have n7 : Same H6 (upd H6 g (.lst (M ++ N))) := same_new hg2
          refine ⟨_, _, g, M ++ N, rfl, s3.trans (s36.trans n7), (s3.trans s36).free hg2, upd_same, by rw [List.length_append]; omega, fun v hv => ?_⟩
          rcases List.mem_append.mp hv with hv | hv
          · exact stepV_same (s36.trans n7) (hM v hv)
          · exact stepV_same n7 (hN v hv)
      · rintro σ H3 ⟨w4, w5, f2, M, rfl, s3, hf2, ef2, lM, hM⟩
        have h8 := gr.2.2
        exact ⟨_, _, _, _, f2, M, rfl, s3, hf2, ef2, by rw [List.length_map] at lM; omega, hM⟩
    · rintro σ H' ⟨v2, v3, v4, v5, f1, L, rfl, s1, hf1, ef1, lL, hL⟩
      exact ⟨_, rfl, q H' f1 L s1 hf1 ef1 (by rw [List.length_map] at lL; omega) hL⟩
theorem ok_walked {f0 fpick : Addr} {fd fdP : FuncData} (F : Fun K "_law_walked_steps" "_law_walked_steps" sWalked f0 fd) (T : Txt mg) (Fpick : Fun K "_law_pick" "_law_pick" sPick fpick fdP) (bpick : Binds K fdP ["_law_source_here", "_law_items"] []) (gpick : mg "_law_pick" = some (.ref fpick))
    (Gpick : FnOk P w K mg base CX0 2 fpick fdP ["_law_source_here", "_law_items"] spPick) : FnOk P w K mg base CX0 3 f0 fd ["_law_source_here", "_law_steps", "_law_most"] spWalked := by
  refine F.ok scWalked (fun vs H Q E h => ?_) (fun cdv A outer s H vs Q E hr h => ?_)
  · obtain ⟨p, l, us, m, b, G, rfl, _⟩ := h
    rfl
  · obtain ⟨p, l, us, m, b, G, rfl, hl, hlen, hst, hm, hS, hB, hG, hs, q⟩ := h
    refine ⟨_, pss_cons (ps_set (i := 3) scWalked.nd rfl (Or.inr rfl) (pe_lst pa_nil))
        (pss_cons (ps_for PassesOwn.never rfl (pi_range1 (by rfl) T.range (pa_cons (pv 2) pa_nil)) (pg_name (i := 4) scWalked.nd rfl (Or.inl rfl)) (pss_cons (ps_setLc (i := 6) (own := [("_law_step", 5)]) (g := gName 5) rfl scWalked.nd rfl rfl (sw_true rfl rfl rfl (by decide +kernel)) (pi_list (pv 1)) (blkOk_by (N := ["_law_source_here", "_law_steps", "_law_most", "_law_found", "_law_turn", "_law_step", "_law_some"]) (sc := defScope sWalked) (by decide +kernel)) (fun _ _ _ _ _ => (pg_name (i := 5) scWalked.nd rfl (Or.inl rfl))) (fun _ _ _ _ _ => (pts_one (PW.pt (pw_or (pt_cmpR (r := rEqD K) (op_eqD hr.units) (pv 3) (pe_lst pa_nil) (nomark _)) (pw_or1 (pt_cmpR op_eq (pe_ix (r := rIxT K) ix_tup (pe_ix (r := rIxL K) ix_list (pv 3) (pe_un un_neg pe_int) (fun _ _ => rfl)) pe_int (fun _ _ => rfl)) (pe_ix (r := rIxT K) ix_tup (pv 5) pe_int (fun _ _ => rfl)) (nomark _))))))) (fun _ _ _ _ _ => (pv 5)))
        (pss_one (ps_if (PW.pt (pw_and (pt_cmpR (op_neD hr.units) (pv 6) (pe_lst pa_nil) (nomark _)) (pw_and1 (PW.pt (pw_or (pt_cmpR op_lt (pe_callB call_len_seq (by rfl) T.len PySem.boot_len (pa_cons (pv 3) pa_nil)) pe_int (nomark _)) (pw_or1 (pt_cmpR op_ne (pe_ix ix_tup (pe_ix ix_list (pv 3) (pe_un un_neg pe_int) (fun _ _ => rfl)) pe_int (fun _ _ => rfl)) (pe_ix ix_tup (pe_ix ix_list (pv 3) pe_int (fun _ _ => rfl)) pe_int (fun _ _ => rfl)) (nomark _)))))))) (pss_one (ps_expr (pe_bm PySem.F.plainAttrs_list PySem.F.slot_list_append PySem.F.type_list_append mt_append (pv 3) (pa_cons (pe_call Gpick hr (by rfl) gpick Fpick.kp bpick .nil pass0 (pa_cons (pv 0) (pa_cons (pv 6) pa_nil))) pa_nil)))) pss_nil))))
        (pss_one (ps_ret (pe_callTy call_tuple_of (by rfl) T.tuple (by decide +kernel) (pa_cons (pv 3) pa_nil))))), ?_⟩
    refine ⟨Nat.zero_le _, fun f hf => ?_⟩
    have nfp : f ≠ p := src_fresh hS hf
    have Gf : G f = none := hs.free hf
    have nlf : l ≠ f := ne_of_none hl Gf
    have nlp : l ≠ p := ne_of_none hl hG
    refine ⟨_, rfl, m, rfl, by omega, by omega, for_range (lo := 0) (n := ((m : Nat) : Int).toNat) (fun i σ H' => ∃ v4 v6 ws, σ = [some (.ref p), some (.ref l), some (.int m), some (.ref f), v4, none, v6] ∧ Same G H' ∧ H' f = some (.lst ws) ∧ ws.length ≤ i ∧ (∀ v ∈ ws, StepV H' v) ∧ Src H' p (b + i)) ?_ ?_ ?_⟩
    · exact ⟨_, _, [], rfl, hs.trans (same_new hf), upd_same, Nat.le_refl _, fun v hv => (nomatch hv), src_new hS hf⟩
    · rintro i σ H1 hi ⟨v4, v6, ws, rfl, s1, ef, lw, hw, S1⟩
      have hi10 : i < 10 := by omega
      have el := s1 _ _ hl
      refine ⟨_, rfl, l, rfl, ⟨_, SqL.of el⟩, fun D hD => ?_⟩
      refine lc_list (K := K) (a := l) (xs := us) (fun k H2 => Same H1 H2 ∧ ∃ N, H2 D = some (.lst N) ∧ N.length ≤ k ∧ ∀ v ∈ N, v ∈ us) ⟨same_new hD, [], upd_same, Nat.le_refl _, fun v hv => (nomatch hv)⟩ (fun k H2 _ ⟨s2, _⟩ => SqL.of (s2 _ _ el)) (fun k x H2 hx ⟨s2, N, eN, lN, hN⟩ => ?_) (fun H2 ⟨s2, N, eN, lN, hN⟩ => ?_)
      · have hxu : x ∈ us := List.mem_of_getElem? hx
        have hku : k < us.length := (List.getElem?_eq_some_iff.mp hx).1
        obtain ⟨a, x1, x2, x3, rfl, ea, wx, wy⟩ := stepV_same (s1.trans s2) (hst x hxu)
        refine ⟨rfl, _, rfl, Nat.zero_le _, fun q1 hq1 => ?_⟩
        have s12 : Same H1 (upd H2 q1 (.lst [])) := s2.trans (same_new hq1)
        obtain ⟨ds, hds⟩ := tds_ex (H := upd H2 q1 (.lst [])) (n := 1) (xs := ws) fun v hv => stepV_td (stepV_same s12 (hw v hv)) 0
        refine ⟨.list ds, .list [], .lst (SqL.of (s12 _ _ ef)) (tds_dp hds).1, .lst (SqL.of upd_same) .nil, td_shaped (K := K) (.lst (s12 _ _ ef) (by omega) hds) (by decide), by decide, _, rfl, ?_⟩
        rw [eqv_nil]
        have eD := same_new (o := HO.lst []) hq1 _ _ eN
        have take : ∃ acc, (upd H2 q1 (.lst [])) D = some (.lst acc) ∧ acc.length < PySem.sizeLine ∧ Same H1 (upd (upd H2 q1 (.lst [])) D (.lst (acc ++ [V.ref a]))) ∧ ∃ N, (upd (upd H2 q1 (.lst [])) D (.lst (acc ++ [V.ref a]))) D = some (.lst N) ∧ N.length ≤ k + 1 ∧ ∀ v ∈ N, v ∈ us := by
          refine ⟨N, eD, small1000 (by omega), same_at s12 hD, N ++ [V.ref a], upd_same, by rw [List.length_append]; exact Nat.succ_le_succ lN, fun v hv => ?_⟩
          rcases List.mem_append.mp hv with hv | hv
          · exact hN v hv
          · rw [List.mem_singleton.mp hv]
            exact hxu
        cases ws with
        | nil =>
          cases hds
          exact iteT (iteT ⟨_, rfl, take⟩)
        | cons w0 ws =>
          have ne : ds.isEmpty = false := by
            cases hds
            rfl
          rw [ne]
          refine iteF ?_
          obtain ⟨v, ev, mv⟩ := last_at (xs := w0 :: ws) (by simp)
          obtain ⟨c, y1, y2, y3, rfl, ec, vy, vz⟩ := stepV_same s12 (hw v mv)
          refine ⟨_, rfl, _, rfl, f, _, _, _, rfl, rfl, SqL.of (s12 _ _ ef), ev, c, _, _, .str y2, rfl, rfl, SqT.of ec, atI_nat (j := 1) rfl, _, rfl, a, _, _, .str x1, rfl, rfl, SqT.of (same_new hq1 _ _ ea), atI_nat (j := 0) rfl, rfl, _, rfl, ?_⟩
          refine ite2 (fun _ => ⟨_, rfl, take⟩) (fun _ => ⟨s12, N, eD, by omega, hN⟩)
      · have s12 : Same G H2 := s1.trans s2
        have S2 : Src H2 p (b + i) := S1.same s2
        have nDp : D ≠ p := src_fresh S1 hD
        refine ⟨_, rfl, Nat.zero_le _, fun q1 hq1 => ?_⟩
        have s13 : Same H1 (upd H2 q1 (.lst [])) := s2.trans (same_new hq1)
        have eD := same_new (o := HO.lst []) hq1 _ _ eN
        obtain ⟨ds, hds⟩ := tds_ex (H := upd H2 q1 (.lst [])) (n := 1) (xs := N) fun v hv => stepV_td (stepV_same (s1.trans s13) (hst v (hN v hv))) 0
        refine ⟨.list ds, .list [], .lst (SqL.of eD) (tds_dp hds).1, .lst (SqL.of upd_same) .nil, td_shaped (K := K) (.lst eD (by omega) hds) (by decide), by decide, _, rfl, ?_⟩
        rw [eqv_nil]
        have stay : ∃ v4 v6 zs, ([some (.ref p), some (.ref l), some (.int m), some (.ref f), some (.int (0 + (i : Nat))), none, some (.ref D)] : St) = [some (.ref p), some (.ref l), some (.int m), some (.ref f), v4, none, v6] ∧ Same G (upd H2 q1 (.lst [])) ∧ (upd H2 q1 (.lst [])) f = some (.lst zs) ∧ zs.length ≤ i + 1 ∧ (∀ v ∈ zs, StepV (upd H2 q1 (.lst [])) v) ∧ Src (upd H2 q1 (.lst [])) p (b + (i + 1)) :=
          ⟨_, _, ws, rfl, s1.trans s13, s13 _ _ ef, by omega, fun v hv => stepV_same s13 (hw v hv), (S1.same s13).mono (by omega)⟩
        cases N with
        | nil =>
          cases hds
          exact iteF (iteF stay)
        | cons w0 N =>
          have ne : ds.isEmpty = false := by
            cases hds
            rfl
          rw [ne]
          refine iteT ?_
          refine ⟨_, rfl, f, _, rfl, .inl (SqL.of (s13 _ _ ef)), _, _, rfl, rfl, _, rfl, ?_⟩
          have S3 : Src (upd H2 q1 (.lst [])) p (b + i) := S1.same s13
          have add : ∀ H3 x, x ∈ w0 :: N → Same (del (upd H2 q1 (.lst [])) p) H3 → Src H3 p (b + i + 1) → rAppend (.ref f) [x] H3 fun _ H' => ∃ v4 v6 ws, ([some (.ref p), some (.ref l), some (.int m), some (.ref f), some (.int (0 + (i : Nat))), none, some (.ref D)] : St) = [some (.ref p), some (.ref l), some (.int m), some (.ref f), v4, none, v6] ∧ Same G H' ∧ H' f = some (.lst ws) ∧ ws.length ≤ i + 1 ∧ (∀ v ∈ ws, StepV H' v) ∧ Src H' p (b + (i + 1)) := fun H3 x hx s3 S4 => by
            have ef3 := del_get s3 nfp (s13 _ _ ef)
            have s4 : Same G H3 := (same_del (s1.trans s13) hG).trans s3
            refine ⟨f, ws, x, rfl, rfl, ef3, small1000 (by omega), _, _, ws ++ [x], rfl, same_at s4 Gf, upd_same, by rw [List.length_append]; exact Nat.succ_le_succ lw, fun v hv => ?_, src_at S4 nfp.symm⟩
            refine stepV_upd ef3 (fun xs z => by cases z) ?_
            rcases List.mem_append.mp hv with hv | hv
            · obtain ⟨a, x1, x2, x3, rfl, ea, wx, wy⟩ := stepV_same s13 (hw v hv)
              have nap : a ≠ p := src_ne S3 ea (fun xs z => by cases z)
              exact ⟨a, x1, x2, x3, rfl, del_get s3 nap ea, wx, wy⟩
            · rw [List.mem_singleton.mp hv]
              exact stepV_same s4 (hst x (hN x hx))
          refine ite2 (fun _ => iteT ?_) (fun hlt => ?_)
          rotate_left
          · have nw : ws ≠ [] := fun z => by
              subst z
              exact hlt (decide_eq_true (by decide))
            obtain ⟨v, ev, mv⟩ := last_at nw
            obtain ⟨c, y1, y2, y3, rfl, ec, vy, vz⟩ := stepV_same s13 (hw v mv)
            have h0 : 0 < ws.length := List.length_pos_iff.mpr nw
            obtain ⟨c2, z1, z2, z3, ez, ec2, _, _⟩ := stepV_same s13 (hw ws[0] (List.getElem_mem h0))
            refine ⟨_, rfl, _, rfl, f, _, _, _, rfl, rfl, SqL.of (s13 _ _ ef), ev, c, _, _, .str y2, rfl, rfl, SqT.of ec, atI_nat (j := 1) rfl, _, rfl, f, _, _, .ref c2, rfl, rfl, SqL.of (s13 _ _ ef), atI_nat (j := 0) (by rw [List.getElem?_eq_getElem h0, ez]), c2, _, _, .str z1, rfl, rfl, SqT.of ec2, atI_nat (j := 0) rfl, rfl, _, rfl, ?_⟩
            refine ite2 (fun _ => ?_) (fun _ => ?_)
            rotate_left
            · exact stay
            refine ⟨_, rfl, .inl ⟨rfl, _, SqL.of (s13 _ _ ef)⟩, _, rfl, _, rfl, p, D, _, _, del (upd H2 q1 (.lst [])) p, rfl, by rw [del_ne nDp]; exact eD, by simp, by omega, S3, by omega, del_at, del_same, fun H3 x hx s3 S4 => ?_⟩
            exact add H3 x hx s3 S4
          refine ⟨_, rfl, .inl ⟨rfl, _, SqL.of (s13 _ _ ef)⟩, _, rfl, _, rfl, p, D, _, _, del (upd H2 q1 (.lst [])) p, rfl, by rw [del_ne nDp]; exact eD, by simp, by omega, S3, by omega, del_at, del_same, fun H3 x hx s3 S4 => ?_⟩
          exact add H3 x hx s3 S4
    · rintro σ H1 ⟨v4, v6, ws, rfl, s1, ef, lw, hw, S1⟩
      refine ⟨_, rfl, f, ws, rfl, .inl ⟨SqL.of ef, fun t ht => ?_⟩⟩
      have lw' : ws.length ≤ m := by omega
      exact q _ t ws (s1.trans (same_new ht)) upd_same (by omega) (fun v hv => stepV_same (same_new ht) (hw v hv)) ((src_new S1 ht).mono (by omega))
theorem ok_near {f0 fnext : Addr} {fd fdN : FuncData} (F : Fun K "_law_near_clashes" "_law_near_clashes" sNear f0 fd) (T : Txt mg) (Fnext : Fun K "_law_next" "_law_next" sNext fnext fdN) (bnext : Binds K fdN ["_law_source_here", "_law_many"] []) (gnext : mg "_law_next" = some (.ref fnext))
    (Gnext : FnOk P w K mg base CX0 1 fnext fdN ["_law_source_here", "_law_many"] spNext) : FnOk P w K mg base CX0 2 f0 fd ["_law_source_here", "_law_thing"] spNear := by
  refine F.ok scNear (fun vs H Q E h => ?_) (fun cdv A outer s H vs Q E hr h => ?_)
  · obtain ⟨p, t, ws, b, G, rfl, _⟩ := h
    rfl
  · obtain ⟨p, t, ws, b, G, rfl, gt, hlen, hst, hS, hB, hG, hs, q⟩ := h
    have et := hs _ _ gt
    have hw : ∀ v ∈ ws, StepV H v := fun v hv => stepV_same hs (hst v hv)
    refine ⟨_, pss_cons (ps_set (i := 2) scNear.nd rfl (Or.inl rfl) (pe_lst (pa_cons (pv 1) (pa_cons (pe_revT (pv 1)) (pa_cons (pe_slice sl_tupA (pv 1) (po_some pe_int) po_none) (pa_cons (pe_op op_catA (pv 1) (pe_slice sl_tupA (pv 1) po_none (po_some pe_int))) (pa_cons (pe_op op_catA (pv 1) (pv 1)) (pa_cons (pe_callTy call_list_of (by rfl) T.list (by decide +kernel) (pa_cons (pv 1) pa_nil)) (pa_cons (pe_op op_catA (pe_slice sl_tupA (pv 1) (po_some pe_int) po_none) (pe_slice sl_tupA (pv 1) po_none (po_some pe_int))) pa_nil)))))))))
        (pss_cons (ps_if (pt_cmpR (op_neD hr.units) (pv 1) (pe_tup pa_nil) (nomark _)) (pss_cons (ps_set (i := 3) scNear.nd rfl (Or.inr rfl) (pe_call Gnext hr (by rfl) gnext Fnext.kp bnext .nil pass0 (pa_cons (pv 0) (pa_cons (pe_callB call_len_seq (by rfl) T.len PySem.boot_len (pa_cons (pv 1) pa_nil)) pa_nil))))
        (pss_cons (ps_asg (pe_ix ix_tup (pv 1) (pv 3) (fun _ _ => rfl)) (pg_tup rfl (pgs_cons (pg_name (i := 4) scNear.nd rfl (Or.inl rfl)) (pgs_cons (pg_name (i := 5) scNear.nd rfl (Or.inl rfl)) (pgs_cons (pg_name (i := 6) scNear.nd rfl (Or.inl rfl)) pgs_nil)))))
        (pss_cons (ps_set (i := 7) scNear.nd rfl (Or.inl rfl) (pe_lst (pa_cons (pe_tup (pa_cons (pv 5) (pa_cons (pv 4) (pa_cons (pv 6) pa_nil)))) (pa_cons (pe_tup (pa_cons (pv 4) (pa_cons (pv 5) (pa_cons (pe_op op_add (pv 6) pe_int) pa_nil)))) (pa_cons (pe_tup (pa_cons (pv 4) (pa_cons (pv 5) (pa_cons (pe_op op_sub pe_int pe_int) pa_nil)))) (pa_cons (pe_tup (pa_cons (pv 4) (pa_cons (pv 5) (pa_cons pe_bl pa_nil)))) (pa_cons (pe_tup (pa_cons (pv 4) (pa_cons (pv 5) (pa_cons pe_non pa_nil)))) (pa_cons (pe_tup (pa_cons (pv 4) (pa_cons (pv 5) (pa_cons pe_str pa_nil)))) (pa_cons (pe_lst (pa_cons (pv 4) (pa_cons (pv 5) (pa_cons (pv 6) pa_nil)))) pa_nil)))))))))
        (pss_cons (ps_set (i := 7) scNear.nd rfl (Or.inl rfl) (pe_op op_cat (pv 7) (pe_lst (pa_cons (pe_tup (pa_cons (pv 4) (pa_cons (pv 5) pa_nil))) (pa_cons (pe_tup (pa_cons (pv 4) (pa_cons (pv 4) (pa_cons (pv 6) pa_nil)))) (pa_cons (pe_tup (pa_cons (pv 4) (pa_cons (pv 5) (pa_cons (pv 6) (pa_cons pe_int pa_nil))))) (pa_cons pe_non (pa_cons (pe_tup (pa_cons pe_non (pa_cons (pv 5) (pa_cons (pv 6) pa_nil)))) (pa_cons (pe_tup (pa_cons (pv 4) (pa_cons (pe_lst (pa_cons pe_str pa_nil)) (pa_cons (pv 6) pa_nil)))) (pa_cons (pe_tup pa_nil) pa_nil))))))))))
        (pss_one (ps_set (i := 2) scNear.nd rfl (Or.inl rfl) (pe_op op_cat (pv 2) (pe_lc (own := [("_law_step", 8)]) (g := gName 8) (tt := tYes) rfl scNear.nd (pi_list (pv 7)) (blkOk_by (N := ["_law_source_here", "_law_thing", "_law_some", "_law_at", "_law_x", "_law_y", "_law_spot", "_law_odd", "_law_step"]) (sc := defScope sNear) (by decide +kernel)) (fun _ _ _ _ _ => (pg_name (i := 8) scNear.nd rfl (Or.inl rfl))) (fun _ _ _ _ _ => pts_nil) (fun _ _ _ _ _ => (pe_op (r := rCatA K) op_catA (pe_op (r := rCatA K) op_catA (pe_slice (r := rSlA K) sl_tupA (pv 1) po_none (po_some (pv 3))) (pe_tup (pa_cons (pv 8) pa_nil))) (pe_slice (r := rSlA K) sl_tupA (pv 1) (po_some (pe_op op_add (pv 3) pe_int)) po_none))))))))))) pss_nil)
        (pss_one (ps_ret (pv 2)))), ?_⟩
    refine ⟨_, rfl, _, rfl, t, ws, rfl, SqT.of et, fun r hr => ?_⟩
    have s1 : Same H (upd H r (.tup ws.reverse)) := same_new hr
    refine ⟨_, rfl, _, rfl, noPart (cutT_tup (s1 _ _ et) fun c1 H2 s2 e2 => ?_)⟩
    have s02 := s1.trans s2
    refine ⟨_, rfl, _, rfl, noPart ⟨_, rfl, cutT_tup (s02 _ _ et) fun c2 H3 s3 e3 => ?_⟩⟩
    have s03 := s02.trans s3
    have l2 := (cut_sub ws none (some 1)).length_le
    have l1 := (cut_sub ws (some 1) none).length_le
    refine catT_tup (s03 _ _ et) e3 (by omega) fun c3 H4 s4 e4 => ?_
    have s04 := s03.trans s4
    refine ⟨_, rfl, _, rfl, catT_tup (s04 _ _ et) (s04 _ _ et) (by omega) fun c4 H5 s5 e5 => ?_⟩
    have s05 := s04.trans s5
    refine ⟨_, rfl, t, ws, rfl, .inr (SqT.of (s05 _ _ et)), fun c5 h5 => ?_⟩
    have s06 := s05.trans (same_new (o := .lst ws) h5)
    refine ⟨_, rfl, _, rfl, noPart (cutT_tup (s06 _ _ et) fun c6 H7 s7 e7 => ?_)⟩
    have s07 := s06.trans s7
    refine ⟨_, rfl, noPart ⟨_, rfl, cutT_tup (s07 _ _ et) fun c7 H8 s8 e8 => ?_⟩⟩
    have s08 := s07.trans s8
    refine catT_tup (s8 _ _ e7) e8 (by omega) fun c8 H9 s9 e9 => ?_
    have s09 := s08.trans s9
    have ev : ∀ v ∈ cutV ws (some 1) none ++ cutV ws none (some 1), v ∈ ws := fun v hv => by
      rcases List.mem_append.mp hv with hv | hv
      · exact (cut_sub ws _ _).subset hv
      · exact (cut_sub ws _ _).subset hv
    have S9 : Src H9 p b := hS.same s09
    have sD : Same G (del H9 p) := same_del (hs.trans s09) hG
    have at_ : ∀ {a : Addr} {xs : List V}, H9 a = some (.tup xs) → del H9 p a = some (.tup xs) := fun e => by
      rw [del_ne (src_ne S9 e (fun xs z => by cases z))]
      exact e
    have near0 : ∀ v ∈ ([.ref t, .ref r, .ref c1, .ref c3, .ref c4, .ref c5, .ref c8] : List V), Tq (del H9 p) 3 v := fun v hv => by
      simp only [List.mem_cons, List.not_mem_nil, or_false] at hv
      have u8 := s9
      have u7 := s8.trans u8
      have u6 := s7.trans u7
      have u5 := (same_new (o := HO.lst ws) h5).trans u6
      have u4 := s5.trans u5
      have u3 := s4.trans u4
      have u2 := s3.trans u3
      have u1 := s2.trans u2
      rcases hv with rfl | rfl | rfl | rfl | rfl | rfl | rfl
      · exact stepsT sD (at_ (s09 _ _ et)) hst (fun v hv => hv) (by omega)
      · exact stepsT sD (at_ (u1 _ _ upd_same)) hst (fun v hv => List.mem_reverse.mp hv) (by rw [List.length_reverse]; omega)
      · exact stepsT sD (at_ (u2 _ _ e2)) hst (fun v hv => (cut_sub ws _ _).subset hv) (by omega)
      · exact stepsT sD (at_ (u4 _ _ e4)) hst (fun v hv => by
          rcases List.mem_append.mp hv with hv | hv
          · exact hv
          · exact (cut_sub ws _ _).subset hv) (by rw [List.length_append]; omega)
      · exact stepsT sD (at_ (u5 _ _ e5)) hst (fun v hv => by
          rcases List.mem_append.mp hv with hv | hv
          · exact hv
          · exact hv) (by rw [List.length_append]; omega)
      · exact tq_lst (by rw [del_ne (src_fresh (hS.same s05) h5)]; exact u6 _ _ upd_same) (by omega) fun v hv => stepV_tq (stepV_same sD (hst v hv)) 1
      · exact stepsT sD (at_ e9) hst ev (by rw [List.length_append]; omega)
    refine ⟨(by show 7 ≤ PySem.sizeLine; decide), fun L hL => ?_⟩
    have nLp : L ≠ p := src_fresh S9 hL
    have sL := same_new (o := HO.lst [.ref t, .ref r, .ref c1, .ref c3, .ref c4, .ref c5, .ref c8]) hL
    refine ⟨_, rfl, Nat.zero_le _, fun e0 he0 => ?_⟩
    have sE := same_new (o := HO.tup []) he0
    have s11 := s09.trans (sL.trans sE)
    obtain ⟨ds, hds⟩ := tds_ex (n := 1) (xs := ws) fun v hv => stepV_tq (stepV_same s11 (hw v hv)) 0
    refine ⟨.tuple ds, .tuple [], .tup (SqT.of (s11 _ _ et)) (tds_dp hds).1, .tup (SqT.of upd_same) .nil, td_shaped (K := K) (.tup (s11 _ _ et) (by omega) hds) (by decide), by decide, _, rfl, ?_⟩
    rw [eqv_nilT]
    have eL := sE _ _ (upd_same (H := H9) (a := L) (o := HO.lst [.ref t, .ref r, .ref c1, .ref c3, .ref c4, .ref c5, .ref c8]))
    by_cases wn : ws = []
    · subst wn
      cases hds
      refine iteF ⟨_, rfl, ?_⟩
      exact q _ L _ (hs.trans s11) nLp eL (by show 7 ≤ 30; decide) (fun v hv => tq_same (del_up (sL.trans sE)) (tq_le (near0 v hv) 5)) ((hS.same s11).mono (by omega))
    · have ne : ds.isEmpty = false := by
        cases hds
        · exact absurd rfl wn
        · rfl
      rw [ne]
      have h0 : 1 ≤ ws.length := List.length_pos_iff.mpr wn
      refine iteT ⟨_, rfl, _, rfl, t, ws, rfl, .inr (SqT.of (s11 _ _ et)), p, _, b, del _ p, rfl, by omega, by omega, hS.same s11, by omega, del_at, del_same, fun B k k0 k1 sB SB => ?_⟩
      obtain ⟨j, rfl⟩ : ∃ j : Nat, k = (j : Int) := ⟨_, (Int.toNat_of_nonneg k0).symm⟩
      have hj : j < ws.length := by omega
      have sGB : Same G B := (same_del (hs.trans s11) hG).trans sB
      have eLB := del_get sB nLp eL
      have etB := sGB _ _ gt
      obtain ⟨a, x, y, z, ez, ea, wx, wy⟩ := stepV_same sGB (hst ws[j] (List.getElem_mem hj))
      refine ⟨_, rfl, _, rfl, t, ws, _, .ref a, rfl, rfl, SqT.of etB, atI_nat (by rw [List.getElem?_eq_getElem hj, ez]), ?_⟩
      refine ⟨a, _, rfl, .inl (.inl ea), rfl, .str x, _, rfl, .str y, _, rfl, .int z, [], rfl, rfl, ?_⟩
      refine ⟨_, rfl, _, rfl, _, rfl, (by show 3 ≤ PySem.sizeLine; decide), fun o1 ho1 => ?_⟩
      have mo1 := same_new (o := HO.tup [.str y, .str x, .int z]) ho1
      refine ⟨_, rfl, _, rfl, _, rfl, _, _, rfl, rfl, (by show 3 ≤ PySem.sizeLine; decide), fun o2 ho2 => ?_⟩
      have mo2 := same_new (o := HO.tup [.str x, .str y, .int (z + 1)]) ho2
      refine ⟨_, rfl, _, rfl, _, _, rfl, rfl, (by show 3 ≤ PySem.sizeLine; decide), fun o3 ho3 => ?_⟩
      have mo3 := same_new (o := HO.tup [.str x, .str y, .int (0 - 1)]) ho3
      refine ⟨_, rfl, _, rfl, (by show 3 ≤ PySem.sizeLine; decide), fun o4 ho4 => ?_⟩
      have mo4 := same_new (o := HO.tup [.str x, .str y, .bl true]) ho4
      refine ⟨_, rfl, _, rfl, (by show 3 ≤ PySem.sizeLine; decide), fun o5 ho5 => ?_⟩
      have mo5 := same_new (o := HO.tup [.str x, .str y, .non]) ho5
      refine ⟨_, rfl, _, rfl, (by show 3 ≤ PySem.sizeLine; decide), fun o6 ho6 => ?_⟩
      have mo6 := same_new (o := HO.tup [.str x, .str y, .str "0"]) ho6
      refine ⟨_, rfl, _, rfl, _, rfl, (by show 3 ≤ PySem.sizeLine; decide), fun o7 ho7 => ?_⟩
      have mo7 := same_new (o := HO.lst [.str x, .str y, .int z]) ho7
      refine ⟨(by show 7 ≤ PySem.sizeLine; decide), fun oA hoA => ?_⟩
      have moA := same_new (o := HO.lst [.ref o1, .ref o2, .ref o3, .ref o4, .ref o5, .ref o6, .ref o7]) hoA
      refine ⟨_, rfl, _, rfl, _, rfl, (by show 2 ≤ PySem.sizeLine; decide), fun q1 hq1 => ?_⟩
      have mq1 := same_new (o := HO.tup [.str x, .str y]) hq1
      refine ⟨_, rfl, _, rfl, _, rfl, (by show 3 ≤ PySem.sizeLine; decide), fun q2 hq2 => ?_⟩
      have mq2 := same_new (o := HO.tup [.str x, .str x, .int z]) hq2
      refine ⟨_, rfl, _, rfl, _, rfl, (by show 4 ≤ PySem.sizeLine; decide), fun q3 hq3 => ?_⟩
      have mq3 := same_new (o := HO.tup [.str x, .str y, .int z, .int 0]) hq3
      refine ⟨_, rfl, _, rfl, (by show 3 ≤ PySem.sizeLine; decide), fun q5 hq5 => ?_⟩
      have mq5 := same_new (o := HO.tup [.non, .str y, .int z]) hq5
      refine ⟨_, rfl, (by show 1 ≤ PySem.sizeLine; decide), fun q6a hq6a => ?_⟩
      have mq6a := same_new (o := HO.lst [.str "a"]) hq6a
      refine ⟨_, rfl, (by show 3 ≤ PySem.sizeLine; decide), fun q6 hq6 => ?_⟩
      have mq6 := same_new (o := HO.tup [.str x, .ref q6a, .int z]) hq6
      refine ⟨(by show 0 ≤ PySem.sizeLine; decide), fun q7 hq7 => ?_⟩
      have mq7 := same_new (o := HO.tup []) hq7
      refine ⟨(by show 7 ≤ PySem.sizeLine; decide), fun qA hqA => ?_⟩
      have mqA := same_new (o := HO.lst [.ref q1, .ref q2, .ref q3, .non, .ref q5, .ref q6, .ref q7]) hqA
      refine ⟨oA, qA, _, _, rfl, rfl, (mq1.trans (mq2.trans (mq3.trans (mq5.trans (mq6a.trans (mq6.trans (mq7.trans mqA))))))) _ _ upd_same, upd_same, (by show 7 + 7 ≤ PySem.sizeLine; decide), fun O hO => ?_⟩
      have mO := same_new (o := HO.lst ([.ref o1, .ref o2, .ref o3, .ref o4, .ref o5, .ref o6, .ref o7] ++ [.ref q1, .ref q2, .ref q3, .non, .ref q5, .ref q6, .ref q7])) hO
      have uqA := mO
      have zzqA := mqA.trans uqA
      have uq7 := zzqA
      have zzq7 := mq7.trans uq7
      have uq6 := zzq7
      have zzq6 := mq6.trans uq6
      have uq6a := zzq6
      have zzq6a := mq6a.trans uq6a
      have uq5 := zzq6a
      have zzq5 := mq5.trans uq5
      have uq3 := zzq5
      have zzq3 := mq3.trans uq3
      have uq2 := zzq3
      have zzq2 := mq2.trans uq2
      have uq1 := zzq2
      have zzq1 := mq1.trans uq1
      have uoA := zzq1
      have zzoA := moA.trans uoA
      have uo7 := zzoA
      have zzo7 := mo7.trans uo7
      have uo6 := zzo7
      have zzo6 := mo6.trans uo6
      have uo5 := zzo6
      have zzo5 := mo5.trans uo5
      have uo4 := zzo5
      have zzo4 := mo4.trans uo4
      have uo3 := zzo4
      have zzo3 := mo3.trans uo3
      have uo2 := zzo3
      have zzo2 := mo2.trans uo2
      have uo1 := zzo2
      have zzo1 := mo1.trans uo1
      have sBC := zzo1
      have w0 : Word "0" := ⟨by decide +kernel, by decide +kernel⟩
      have wa : Word "a" := ⟨by decide +kernel, by decide +kernel⟩
      have SC := SB.same sBC
      have odd : ∀ v ∈ ([.ref o1, .ref o2, .ref o3, .ref o4, .ref o5, .ref o6, .ref o7, .ref q1, .ref q2, .ref q3, .non, .ref q5, .ref q6, .ref q7] : List V), Tq (del (upd _ O _) p) 3 v := fun v hv => by
        simp only [List.mem_cons, List.not_mem_nil, or_false] at hv
        rcases hv with rfl | rfl | rfl | rfl | rfl | rfl | rfl | rfl | rfl | rfl | rfl | rfl | rfl | rfl
        · exact tq3 (del_tup SC (uo1 _ _ upd_same)) (tqS wy) (tqS wx) (tqI _)
        · exact tq3 (del_tup SC (uo2 _ _ upd_same)) (tqS wx) (tqS wy) (tqI _)
        · exact tq3 (del_tup SC (uo3 _ _ upd_same)) (tqS wx) (tqS wy) (tqI _)
        · exact tq3 (del_tup SC (uo4 _ _ upd_same)) (tqS wx) (tqS wy) (tqB _)
        · exact tq3 (del_tup SC (uo5 _ _ upd_same)) (tqS wx) (tqS wy) tqN
        · exact tq3 (del_tup SC (uo6 _ _ upd_same)) (tqS wx) (tqS wy) (tqS w0)
        · exact tl3 (del_lstS SC (uo7 _ _ upd_same)) (tqS wx) (tqS wy) (tqI _)
        · exact tq2 (del_tup SC (uq1 _ _ upd_same)) (tqS wx) (tqS wy)
        · exact tq3 (del_tup SC (uq2 _ _ upd_same)) (tqS wx) (tqS wx) (tqI _)
        · exact tq4 (del_tup SC (uq3 _ _ upd_same)) (tqS wx) (tqS wy) (tqI _) (tqI _)
        · exact tqN
        · exact tq3 (del_tup SC (uq5 _ _ upd_same)) tqN (tqS wy) (tqI _)
        · exact tq3 (del_tup SC (uq6 _ _ upd_same)) (tqS wx) (tl1 (del_lstS SC (uq6a _ _ upd_same)) (tqS wa)) (tqI _)
        · exact tq0 (del_tup SC (uq7 _ _ upd_same))
      have eO := upd_of (o := HO.lst ([.ref o1, .ref o2, .ref o3, .ref o4, .ref o5, .ref o6, .ref o7] ++ [.ref q1, .ref q2, .ref q3, .non, .ref q5, .ref q6, .ref q7])) hO
      generalize (upd _ O _) = C at sBC SC odd eO ⊢
      have etC := sBC _ _ etB
      have sGC := sGB.trans sBC
      have SC : Src C p (b + 1) := SC
      have eLC := sBC _ _ eLB
      have ll1 := (cut_sub ws none (some (j : Int))).length_le
      have ll2 := (cut_sub ws (some ((j : Int) + 1)) none).length_le
      have wt : ∀ v ∈ ws, Tq (del C p) 3 v := fun v hv => stepV_tq (stepV_same (same_del sGC hG) (hst v hv)) 2
      refine ⟨_, rfl, _, rfl, O, rfl, ⟨_, SqL.of eO⟩, fun D hD => ?_⟩
      refine lc_list (K := K) (a := O) (xs := [.ref o1, .ref o2, .ref o3, .ref o4, .ref o5, .ref o6, .ref o7, .ref q1, .ref q2, .ref q3, .non, .ref q5, .ref q6, .ref q7]) (fun k H2 => Same C H2 ∧ ∃ N, H2 D = some (.lst N) ∧ N.length = k ∧ ∀ v ∈ N, RowV (del C p) H2 v) ⟨same_new hD, [], upd_same, rfl, fun v hv => (nomatch hv)⟩ (fun k H2 _ ⟨s2, _⟩ => SqL.of (s2 _ _ eO)) (fun k v H2 hx ⟨s2, N, eN, lN, hN⟩ => ?_) (fun H2 ⟨s2, N, eN, lN, hN⟩ => ?_)
      · have tv := odd v (List.mem_of_getElem? hx)
        have hk : k < 14 := (List.getElem?_eq_some_iff.mp hx).1
        refine ⟨rfl, ?_⟩
        refine ⟨_, rfl, noPart ⟨_, rfl, _, rfl, cutT_tup (s2 _ _ etC) fun d1 D1 n1 f1 => ?_⟩⟩
        refine ⟨_, rfl, (by show 1 ≤ PySem.sizeLine; decide), fun d2 g2 => ?_⟩
        have n2 := same_new (o := HO.tup [v]) g2
        refine catT_tup (n2 _ _ f1) upd_same (by show _ + 1 ≤ 2000; omega) fun d3 D3 n3 f3 => ?_
        have n03 := (s2.trans n1).trans (n2.trans n3)
        refine ⟨_, rfl, _, rfl, _, _, rfl, rfl, _, rfl, noPart (cutT_tup (n03 _ _ etC) fun d4 D4 n4 f4 => ?_)⟩
        refine catT_tup (n4 _ _ f3) f4 (by rw [List.length_append]; show _ + 1 + _ ≤ 2000; omega) fun d5 D5 n5 f5 => ?_
        have n05 := (n1.trans (n2.trans n3)).trans (n4.trans n5)
        refine ⟨N, n05 _ _ eN, small1000 (by omega), same_at (s2.trans n05) hD, N ++ [.ref d5], upd_same, by rw [List.length_append, lN]; rfl, fun u hu => ?_⟩
        refine rowV_at (n05 _ _ eN) (fun xs z => by cases z) ?_
        rcases List.mem_append.mp hu with hu | hu
        · exact rowV_same n05 (hN u hu)
        · rw [List.mem_singleton.mp hu]
          refine ⟨d5, _, rfl, f5, by rw [List.length_append, List.length_append]; show _ + 1 + _ ≤ 1000; omega, fun y hy => ?_⟩
          rcases List.mem_append.mp hy with hy | hy
          · rcases List.mem_append.mp hy with hy | hy
            · exact wt y ((cut_sub ws _ _).subset hy)
            · rw [List.mem_singleton.mp hy]
              exact tv
          · exact wt y ((cut_sub ws _ _).subset hy)
      · have e14 : N.length = 14 := lN
        refine ⟨L, D, _, N, rfl, rfl, s2 _ _ eLC, eN, (by show 7 + N.length ≤ PySem.sizeLine; rw [e14]; decide), fun g hg => ?_⟩
        have n3 := same_new (o := HO.lst ([.ref t, .ref r, .ref c1, .ref c3, .ref c4, .ref c5, .ref c8] ++ N)) hg
        have Sg := SC.same s2
        refine ⟨_, rfl, q _ g _ (sGC.trans (s2.trans n3)) (src_fresh Sg hg) upd_same (by show N.length + 7 ≤ 30; omega) (fun v hv => ?_) (src_new Sg hg)⟩
        rcases List.mem_append.mp hv with hv | hv
        · have sC := (del_up (p := p) (sL.trans sE)).trans (same_del (sB.trans (sBC.trans (s2.trans n3))) del_at)
          exact tq_same sC (tq_le (near0 v hv) 5)
        · exact tq_same (del_up n3) (tq_le (rowV_tqD Sg (del_up s2) (hN v hv)) 4)
end
end K06

set_option Elab.async false
set_option maxRecDepth 100000
set_option maxHeartbeats 4000000
namespace Nb
open PySem L2
theorem cl_del {H : Hp} {p : Addr} {x : V} {d : PyData} (h : Cl (del H p) x d) : Cl H x d := by
  rcases h with h | ⟨h1, a, h2, h3⟩
  · exact .inl (td_same del_same h)
  · exact .inr ⟨h1, a, h2, del_same _ _ h3⟩
theorem turns (L : Int) : 1 ≤ (if (if L < 4 then L else 4) > 1 then (if L < 4 then L else 4) else 1) ∧ (if (if L < 4 then L else 4) > 1 then (if L < 4 then L else 4) else 1) ≤ 4 := by
  split <;> split at * <;> omega
theorem turns_lt {i : Nat} {L : Int} (h : i < (if (if L < 4 then L else 4) > 1 then (if L < 4 then L else 4) else 1).toNat) : i < 4 := by
  have := (turns L).2
  omega
theorem cl_up {F H : Hp} (s : Same F H) {x : V} {d : PyData} (h : Cl F x d) : Cl H x d := by
  rcases h with h | ⟨h1, a, h2, h3⟩
  · exact .inl (td_same s h)
  · exact .inr ⟨h1, a, h2, s _ _ h3⟩
theorem cl_tq {H : Hp} {x : V} (h : Tq H 8 x) : ∃ d, Cl H x d := let ⟨d, k⟩ := h; ⟨d, .inl k⟩
end Nb
namespace K06
open PySem L2 Nb
abbrev sLaw : Stmt := topT 27
theorem scLaw : FnScope ["_law_script","_law_k","_law_source_here","_law_rows","_law_steps","_law_some","_law_turn","_law_thing","_law_good"] ["_law_script"] (defScope sLaw) := ⟨rfl, rfl, rfl, by decide +kernel, rfl, by decide +kernel, by decide +kernel⟩
section
variable {P : Program} {w : World} {K : PySem.W.Frag} {mg : Str → Option Value} {base : Heap}
theorem ok_law {f fsource fnext fname_rows ftuple_steps fwalked_steps fnear_clashes fis_clash fclash_fits : Addr} {fd fdS fdN fdR fdT fdW fdC fdI fdF : FuncData} (F : Fun K "law" "law" sLaw f fd) (T : Txt mg)
    (Fsource : Fun K "_law_source" "_law_source" sSource fsource fdS) (bsource : Binds K fdS ["_law_script", "_law_k"] []) (gsource : mg "_law_source" = some (.ref fsource)) (Gsource : FnOk P w K mg base CX0 1 fsource fdS ["_law_script", "_law_k"] (spSource K))
    (Fnext : Fun K "_law_next" "_law_next" sNext fnext fdN) (bnext : Binds K fdN ["_law_source_here", "_law_many"] []) (gnext : mg "_law_next" = some (.ref fnext)) (Gnext : FnOk P w K mg base CX0 1 fnext fdN ["_law_source_here", "_law_many"] spNext)
    (Fname_rows : Fun K "_law_name_rows" "_law_name_rows" sRows fname_rows fdR) (bname_rows : Binds K fdR ["_law_source_here", "_law_many", "_law_most", "_law_is_free"] []) (gname_rows : mg "_law_name_rows" = some (.ref fname_rows)) (Gname_rows : FnOk P w K mg base CX0 3 fname_rows fdR ["_law_source_here", "_law_many", "_law_most", "_law_is_free"] spRows)
    (Ftuple_steps : Fun K "_law_tuple_steps" "_law_tuple_steps" sSteps ftuple_steps fdT) (btuple_steps : Binds K fdT ["_law_rows"] []) (gtuple_steps : mg "_law_tuple_steps" = some (.ref ftuple_steps)) (Gtuple_steps : FnOk P w K mg base CX0 1 ftuple_steps fdT ["_law_rows"] spSteps)
    (Fwalked_steps : Fun K "_law_walked_steps" "_law_walked_steps" sWalked fwalked_steps fdW) (bwalked_steps : Binds K fdW ["_law_source_here", "_law_steps", "_law_most"] []) (gwalked_steps : mg "_law_walked_steps" = some (.ref fwalked_steps)) (Gwalked_steps : FnOk P w K mg base CX0 3 fwalked_steps fdW ["_law_source_here", "_law_steps", "_law_most"] spWalked)
    (Fnear_clashes : Fun K "_law_near_clashes" "_law_near_clashes" sNear fnear_clashes fdC) (bnear_clashes : Binds K fdC ["_law_source_here", "_law_thing"] []) (gnear_clashes : mg "_law_near_clashes" = some (.ref fnear_clashes)) (Gnear_clashes : FnOk P w K mg base CX0 2 fnear_clashes fdC ["_law_source_here", "_law_thing"] spNear)
    (Fis_clash : Fun K "is_clash" "is_clash" sClash fis_clash fdI) (bis_clash : Binds K fdI ["tuples", "thing"] []) (gis_clash : mg "is_clash" = some (.ref fis_clash)) (Gis_clash : FnOk P w K mg base CX0 5 fis_clash fdI ["tuples", "thing"] spClash)
    (Fclash_fits : Fun K "_law_clash_fits" "_law_clash_fits" sFits fclash_fits fdF) (bclash_fits : Binds K fdF ["_law_rows", "_law_thing"] []) (gclash_fits : mg "_law_clash_fits" = some (.ref fclash_fits)) (Gclash_fits : FnOk P w K mg base CX0 2 fclash_fits fdF ["_law_rows", "_law_thing"] spFits) :
    FnOk P w K mg base CX0 6 f fd ["_law_script"] (spLaw K) := by
  refine F.ok scLaw (fun vs H Q E h => ?_) (fun cdv A outer s H vs Q E hr h => ?_)
  · obtain ⟨a, ns, rfl, _⟩ := h
    rfl
  · obtain ⟨a, ns, rfl, hS, hlen, q⟩ := h
    have hr1 : Room 1 _ := hr.mono (by decide)
    have hr2 : Room 2 _ := hr.mono (by decide)
    have hr3 : Room 3 _ := hr.mono (by decide)
    refine ⟨_, pss_cons (ps_for PassesOwn.never rfl (pi_range1 (by rfl) T.range (pa_cons (pe_callB (call_max2 rfl) (by rfl) T.max (by decide +kernel) (pa_cons pe_int (pa_cons (pe_callB (call_min2 rfl) (by rfl) T.min (by decide +kernel) (pa_cons pe_int (pa_cons (pe_callB call_len_seq (by rfl) T.len PySem.boot_len (pa_cons (pv 0) pa_nil)) pa_nil))) pa_nil))) pa_nil)) (pg_name (i := 1) scLaw.nd rfl (Or.inl rfl)) (pss_cons (ps_set (i := 2) scLaw.nd rfl (Or.inl rfl) (pe_call Gsource hr1 (by rfl) gsource Fsource.kp bsource .nil pass0 (pa_cons (pv 0) (pa_cons (pv 1) pa_nil))))
        (pss_cons (ps_set (i := 3) scLaw.nd rfl (Or.inr rfl) (pe_callTy call_tuple_of (by rfl) T.tuple (by decide +kernel) (pa_cons (pe_call Gname_rows hr3 (by rfl) gname_rows Fname_rows.kp bname_rows .nil pass0 (pa_cons (pv 2) (pa_cons (pe_op op_add pe_int (pe_call Gnext hr1 (by rfl) gnext Fnext.kp bnext .nil pass0 (pa_cons (pv 2) (pa_cons pe_int pa_nil)))) (pa_cons (pe_op op_add pe_int (pe_call Gnext hr1 (by rfl) gnext Fnext.kp bnext .nil pass0 (pa_cons (pv 2) (pa_cons pe_int pa_nil)))) (pa_cons pe_bl pa_nil))))) pa_nil)))
        (pss_cons (ps_par (i := 4) (j := 5) rfl scLaw.nd rfl rfl (by decide) rfl rfl (pa_cons (pe_call Gtuple_steps hr1 (by rfl) gtuple_steps Ftuple_steps.kp btuple_steps .nil pass0 (pa_cons (pv 3) pa_nil)) (pa_cons (pe_lst (pa_cons pe_non (pa_cons pe_int (pa_cons pe_str (pa_cons pe_dnewK (pa_cons (pe_tup pa_nil) (pa_cons (pe_tup (pa_cons (pe_tup pa_nil) pa_nil)) (pa_cons (pe_lst (pa_cons (pe_tup (pa_cons pe_str (pa_cons pe_str (pa_cons pe_int pa_nil)))) pa_nil)) (pa_cons (pe_tup (pa_cons pe_non (pa_cons pe_non pa_nil))) pa_nil))))))))) pa_nil)) rfl)
        (pss_cons (ps_for PassesOwn.never rfl (pi_range1 (by rfl) T.range (pa_cons pe_int pa_nil)) (pg_name (i := 6) scLaw.nd rfl (Or.inl rfl)) (pss_one (ps_set (i := 5) scLaw.nd rfl (Or.inl rfl) (pe_op op_cat (pv 5) (pe_call Gnear_clashes hr2 (by rfl) gnear_clashes Fnear_clashes.kp bnear_clashes .nil pass0 (pa_cons (pv 2) (pa_cons (pe_call Gwalked_steps hr3 (by rfl) gwalked_steps Fwalked_steps.kp bwalked_steps .nil pass0 (pa_cons (pv 2) (pa_cons (pv 4) (pa_cons (pe_op op_add pe_int (pe_call Gnext hr1 (by rfl) gnext Fnext.kp bnext .nil pass0 (pa_cons (pv 2) (pa_cons pe_int pa_nil)))) pa_nil)))) pa_nil)))))))
        (pss_one (ps_for PassesOwn.never rfl (pi_list (pv 5)) (pg_name (i := 7) scLaw.nd rfl (Or.inl rfl)) (pss_one (ps_if (pt_cmpR op_ne (pe_callB cr_reprB (by rfl) T.repr (by decide +kernel) (pa_cons (pe_call Gis_clash hr (by rfl) gis_clash Fis_clash.kp bis_clash .nil pass0 (pa_cons (pv 3) (pa_cons (pv 7) pa_nil))) pa_nil)) (pe_callB cr_reprB (by rfl) T.repr (by decide +kernel) (pa_cons (pe_call Gclash_fits hr2 (by rfl) gclash_fits Fclash_fits.kp bclash_fits .nil pass0 (pa_cons (pv 3) (pa_cons (pv 7) pa_nil))) pa_nil)) (nomark _)) (pss_one (ps_ret pe_bl)) pss_nil)))))))))
        (pss_cons (ps_set (i := 3) scLaw.nd rfl (Or.inr rfl) (pe_tup (pa_cons (pe_tup (pa_cons pe_str (pa_cons pe_str pa_nil))) (pa_cons (pe_tup (pa_cons pe_str (pa_cons pe_str pa_nil))) pa_nil))))
        (pss_cons (ps_set (i := 8) scLaw.nd rfl (Or.inl rfl) (pe_lst (pa_cons (pe_tup (pa_cons (pe_tup (pa_cons pe_str (pa_cons pe_str (pa_cons pe_int pa_nil)))) (pa_cons (pe_tup (pa_cons pe_str (pa_cons pe_str (pa_cons pe_int pa_nil)))) pa_nil))) (pa_cons (pe_tup (pa_cons (pe_tup (pa_cons pe_str (pa_cons pe_str (pa_cons pe_int pa_nil)))) (pa_cons (pe_tup (pa_cons pe_str (pa_cons pe_str (pa_cons pe_int pa_nil)))) (pa_cons (pe_tup (pa_cons pe_str (pa_cons pe_str (pa_cons pe_int pa_nil)))) (pa_cons (pe_tup (pa_cons pe_str (pa_cons pe_str (pa_cons pe_int pa_nil)))) pa_nil))))) pa_nil))))
        (pss_cons (ps_set (i := 8) scLaw.nd rfl (Or.inl rfl) (pe_op op_cat (pv 8) (pe_lst (pa_cons (pe_tup (pa_cons (pe_tup (pa_cons pe_str (pa_cons pe_str (pa_cons pe_int pa_nil)))) pa_nil)) (pa_cons (pe_tup (pa_cons (pe_tup (pa_cons pe_str (pa_cons pe_str (pa_cons pe_int pa_nil)))) (pa_cons (pe_tup (pa_cons pe_str (pa_cons pe_str (pa_cons pe_int pa_nil)))) pa_nil))) pa_nil)))))
        (pss_one (ps_ret (pe_cmpR (op_eqD hr.units) (pe_lc (own := [("_law_thing", 7)]) (g := gName 7) (tt := tYes) rfl scLaw.nd (pi_list (pv 8)) (blkOk_by (N := ["_law_script", "_law_k", "_law_source_here", "_law_rows", "_law_steps", "_law_some", "_law_turn", "_law_thing", "_law_good"]) (sc := defScope sLaw) (by decide +kernel)) (fun _ _ _ _ _ => (pg_name (i := 7) scLaw.nd rfl (Or.inl rfl))) (fun _ _ _ _ _ => pts_nil) (fun _ _ _ _ _ => (pe_call Gis_clash hr (by rfl) gis_clash Fis_clash.kp bis_clash .nil pass0 (pa_cons (pv 3) (pa_cons (pv 7) pa_nil))))) (pe_lst (pa_cons pe_bl (pa_cons pe_bl (pa_cons pe_bl (pa_cons pe_bl pa_nil))))) (nomark _))))))), ?_⟩
    refine ⟨_, rfl, a, _, rfl, .inl hS, _, _, rfl, _, _, rfl, ?_⟩
    refine ⟨_, rfl, Int.le_trans (by decide) (turns _).1, Int.lt_of_le_of_lt (turns _).2 (by decide), for_range (lo := 0) (fun i σ H' => ∃ v1 v2 v3 v4 v5 v6 v7, σ = [some (.ref a), v1, v2, v3, v4, v5, v6, v7, none] ∧ Same H H') ⟨_, _, _, _, _, _, _, rfl, Same.refl H⟩ ?_ ?_⟩
    · rintro i σ H0 hi ⟨v1, v2, v3, v4, v5, v6, v7, rfl, s0⟩
      have hi4 : i < 4 := turns_lt hi
      refine ⟨_, rfl, _, rfl, a, ns, i, (by rw [Int.zero_add]; rfl), s0.seq hS, hlen, by omega, fun H1 p s1 np S1 => ?_⟩
      refine ⟨_, rfl, _, rfl, p, 3, _, del H1 p, rfl, by decide, by decide, S1, by omega, del_at, del_same, fun H2 k k0 k3 s2 S2 => ?_⟩
      refine ⟨_, _, rfl, rfl, _, rfl, p, 5, _, del H2 p, rfl, by decide, by decide, S2, by omega, del_at, del_same, fun H3 m m0 m5 s3 S3 => ?_⟩
      refine ⟨_, _, rfl, rfl, ?_⟩
      obtain ⟨j, rfl⟩ : ∃ j : Nat, k = (j : Int) := ⟨_, (Int.toNat_of_nonneg k0).symm⟩
      obtain ⟨n, rfl⟩ : ∃ n : Nat, m = (n : Int) := ⟨_, (Int.toNat_of_nonneg m0).symm⟩
      refine ⟨p, 2 + j, 2 + n, true, _, del H3 p, rfl, by omega, by omega, S3, by omega, del_at, del_same, fun H4 l as rows s4 fl nl el hR lr hg S4 => ?_⟩
      refine ⟨l, _, rfl, .inl ⟨SqL.of el, fun r hr4 => ?_⟩⟩
      have n5 := same_new (o := HO.tup (as.map V.ref)) hr4
      have R5 : RowsF (upd H4 r (.tup (as.map V.ref))) r rows := ⟨as, upd_same, rowsL_same n5 hR⟩
      refine ⟨_, rfl, r, rows, rfl, R5, hg, by omega, fun H5 st us s5 fst est lus hus => ?_⟩
      have S5 : Src H5 p 200 := ((src_new S4 hr4).same s5).mono (by omega)
      have R5' : RowsF H5 r rows := rowsF_same s5 R5
      have hp : H p = none := s0.free np
      have w2 : Same H H2 := (same_del (s0.trans s1) hp).trans s2
      have w3 : Same H H3 := (same_del w2 hp).trans s3
      have w4 : Same H H4 := (same_del w3 hp).trans s4
      have s05 : Same H H5 := (w4.trans n5).trans s5
      have nst : st ≠ p := src_fresh (src_new S4 hr4) fst
      intro d hd
      refine ⟨Nat.zero_le _, fun t0 h0 => ?_⟩
      refine ⟨Nat.zero_le _, fun t1 h1 => ?_⟩
      refine ⟨(by show 1 ≤ PySem.sizeLine; decide), fun t2 h2 => ?_⟩
      refine ⟨(by show 3 ≤ PySem.sizeLine; decide), fun t3 h3 => ?_⟩
      refine ⟨(by show 1 ≤ PySem.sizeLine; decide), fun l1 h4 => ?_⟩
      refine ⟨(by show 2 ≤ PySem.sizeLine; decide), fun t5 h5 => ?_⟩
      refine ⟨(by show 8 ≤ PySem.sizeLine; decide), fun o ho => ?_⟩
      refine ⟨_, _, rfl, ?_⟩
      have m8 := same_new (o := HO.lst [.non, .int 5, .str "ab", .ref d, .ref t0, .ref t2, .ref l1, .ref t5]) ho
      have m7 := (same_new (o := HO.tup [.non, .non]) h5).trans m8
      have m6 := (same_new (o := HO.lst [.ref t3]) h4).trans m7
      have m5 := (same_new (o := HO.tup [.str "a", .str "b", .int 0]) h3).trans m6
      have m4 := (same_new (o := HO.tup [.ref t1]) h2).trans m5
      have m3 := (same_new (o := HO.tup []) h1).trans m4
      have m2 := (same_new (o := HO.tup []) h0).trans m3
      have m1 := (same_new (o := HO.dK []) hd).trans m2
      have ed := m2 _ _ (upd_of (o := HO.dK []) hd)
      have e0 := m3 _ _ (upd_of (o := HO.tup []) h0)
      have e1 := m4 _ _ (upd_of (o := HO.tup []) h1)
      have e2 := m5 _ _ (upd_of (o := HO.tup [.ref t1]) h2)
      have e3 := m6 _ _ (upd_of (o := HO.tup [.str "a", .str "b", .int 0]) h3)
      have e4 := m7 _ _ (upd_of (o := HO.lst [.ref t3]) h4)
      have e5 := m8 _ _ (upd_of (o := HO.tup [.non, .non]) h5)
      have eo := upd_of (o := HO.lst [.non, .int 5, .str "ab", .ref d, .ref t0, .ref t2, .ref l1, .ref t5]) ho
      have S6 := S5.same m1
      have nl1 : l1 ≠ p := src_fresh (S5.same ((same_new (o := HO.dK []) hd).trans ((same_new (o := HO.tup []) h0).trans ((same_new (o := HO.tup []) h1).trans ((same_new (o := HO.tup [.ref t1]) h2).trans (same_new (o := HO.tup [.str "a", .str "b", .int 0]) h3)))))) h4
      have no : o ≠ p := src_fresh (S5.same ((same_new (o := HO.dK []) hd).trans ((same_new (o := HO.tup []) h0).trans ((same_new (o := HO.tup []) h1).trans ((same_new (o := HO.tup [.ref t1]) h2).trans ((same_new (o := HO.tup [.str "a", .str "b", .int 0]) h3).trans ((same_new (o := HO.lst [.ref t3]) h4).trans (same_new (o := HO.tup [.non, .non]) h5)))))))) ho
      generalize (upd _ o _) = H6 at m1 ed e0 e1 e2 e3 e4 e5 eo S6 ⊢
      clear m8 m7 m6 m5 m4 m3 m2
      have s06 : Same H H6 := s05.trans m1
      have R6 : RowsF (del H6 p) r rows := by
        obtain ⟨bs, g1, g2⟩ := rowsF_same m1 R5'
        exact ⟨bs, del_tup S6 g1, rowsL_del S6 (Same.refl _) g2⟩
      have est6 : del H6 p st = some (.lst us) := by
        rw [del_ne nst]
        exact m1 _ _ est
      have us6 : ∀ v ∈ us, StepV (del H6 p) v := fun v hv => by
        obtain ⟨b, x1, x2, x3, e1, e2, e3, e4⟩ := stepV_same m1 (hus v hv)
        exact ⟨b, x1, x2, x3, e1, del_tup S6 e2, e3, e4⟩
      have wa : Word "a" := ⟨by decide +kernel, by decide +kernel⟩
      have wb : Word "b" := ⟨by decide +kernel, by decide +kernel⟩
      have wab : Word "ab" := ⟨by decide +kernel, by decide +kernel⟩
      have cl0 : ∀ v ∈ ([.non, .int 5, .str "ab", .ref d, .ref t0, .ref t2, .ref l1, .ref t5] : List V), ∃ d, Cl (del H6 p) v d := fun v hv => by
        simp only [List.mem_cons, List.not_mem_nil, or_false] at hv
        have k1 : del H6 p t1 = some (.tup []) := del_tup S6 e1
        have k3 := del_tup S6 e3
        have kd : del H6 p d = some (.dK []) := by
          rw [del_ne (src_ne S6 ed (fun xs z => by cases z))]
          exact ed
        have k4 : del H6 p l1 = some (.lst [.ref t3]) := by
          rw [del_ne nl1]
          exact e4
        rcases hv with rfl | rfl | rfl | rfl | rfl | rfl | rfl | rfl
        · exact cl_tq tqN
        · exact cl_tq (tqI _)
        · exact cl_tq (tqS wab)
        · exact ⟨_, .inr ⟨rfl, d, rfl, kd⟩⟩
        · exact cl_tq (tq0 (del_tup S6 e0))
        · exact cl_tq (tq_tup (del_tup S6 e2) (by show 1 ≤ 1000; decide) fun v hv => by
            rw [List.mem_singleton.mp hv]
            exact tq0 (n := 6) k1)
        · exact cl_tq (tl1 k4 (tq3 (n := 6) k3 (tqS wa) (tqS wb) (tqI _)))
        · exact cl_tq (tq2 (del_tup S6 e5) tqN tqN)
      clear e0 e1 e2 e3 e4 e5 ed
      obtain ⟨G, eG⟩ : ∃ G, G = del H6 p := ⟨_, rfl⟩
      have Gp : G p = none := by rw [eG]; exact del_at
      have sG6 : Same G H6 := by rw [eG]; exact del_same
      rw [← eG] at R6 est6 us6 cl0
      refine ⟨4, rfl, by decide, by decide, for_range (lo := 0) (n := (4 : Int).toNat) (fun i' σ H' => ∃ v6 o zs, σ = [some (.ref a), some (.int (0 + (i : Nat))), some (.ref p), some (.ref r), some (.ref st), some (.ref o), v6, v7, none] ∧ Same G H' ∧ H' o = some (.lst zs) ∧ o ≠ p ∧ zs.length ≤ 8 + 30 * i' ∧ (∀ v ∈ zs, ∃ d, Cl (del H' p) v d) ∧ Src H' p (200 + 7 * i')) ?_ ?_ ?_⟩
      · exact ⟨_, o, _, rfl, sG6, eo, no, (by show 8 ≤ 8; decide), by rw [← eG]; exact cl0, S6⟩
      · rintro i' σ H7 hi' ⟨v6, o', zs, rfl, s7, eo7, no7, lz, hz, S7⟩
        have hi'4 : i' < 4 := hi'
        refine ⟨_, rfl, _, rfl, _, rfl, _, rfl, _, rfl, p, 4, _, del H7 p, rfl, by decide, by decide, S7, by omega, del_at, del_same, fun H8 k k0 k4 s8 S8 => ?_⟩
        refine ⟨_, _, rfl, rfl, ?_⟩
        obtain ⟨n', rfl⟩ : ∃ n' : Nat, k = (n' : Int) := ⟨_, (Int.toNat_of_nonneg k0).symm⟩
        have sG8 : Same G (del H8 p) := same_del ((same_del s7 Gp).trans s8) Gp
        refine ⟨p, st, us, 2 + n', _, del H8 p, rfl, sG8 _ _ est6, by omega, fun v hv => stepV_same sG8 (us6 v hv), by omega, S8, by omega, del_at, del_same, fun H9 t ws s9 et lw hws S9 => ?_⟩
        have hws9 : ∀ v ∈ ws, StepV (del H9 p) v := fun v hv => by
          obtain ⟨b, x1, x2, x3, e1, e2, e3, e4⟩ := hws v hv
          exact ⟨b, x1, x2, x3, e1, del_tup S9 e2, e3, e4⟩
        refine ⟨p, t, ws, _, del H9 p, rfl, del_tup S9 et, lw, hws9, S9, by omega, del_at, del_same, fun H10 l2 us2 s10 nl2 el2 lu2 hu2 S10 => ?_⟩
        have eo10 := del_get s10 no7 (del_get s9 no7 (del_get s8 no7 eo7))
        have s710 : Same (del H7 p) (del H10 p) := ((same_del s8 del_at).trans (same_del s9 del_at)).trans (same_del s10 del_at)
        have sG10 : Same G H10 := ((same_del s7 Gp).trans s710).trans del_same
        refine ⟨o', l2, zs, us2, rfl, rfl, eo10, el2, Nat.le_of_lt (small1000 (by omega)), fun g hg' => ?_⟩
        have n10 := same_new (o := HO.lst (zs ++ us2)) hg'
        refine ⟨_, g, _, rfl, sG10.trans n10, upd_same, src_fresh S10 hg', by rw [List.length_append]; omega, fun v hv => ?_, (src_new S10 hg').mono (by omega)⟩
        rcases List.mem_append.mp hv with hv | hv
        · obtain ⟨d, k⟩ := hz v hv
          exact ⟨d, cl_up (s710.trans (del_up n10)) k⟩
        · obtain ⟨d, k⟩ := hu2 v hv
          exact ⟨d, .inl (td_same (del_up n10) k)⟩
      · rintro σ H7 ⟨v6, o', zs, rfl, s7, eo7, no7, lz, hz, S7⟩
        have R7 := rowsF_same s7 R6
        refine ⟨_, rfl, o', rfl, ⟨_, SqL.of eo7⟩, for_list (K := K) (a := o') (xs := zs) (fun i' σ H' => ∃ v7, σ = [some (.ref a), some (.int (0 + (i : Nat))), some (.ref p), some (.ref r), some (.ref st), some (.ref o'), v6, v7, none] ∧ Same H7 H') ⟨_, rfl, Same.refl _⟩ (fun i' σ H' _ ⟨_, _, s8⟩ => SqL.of (s8 _ _ eo7)) ?_ ?_⟩
        · rintro i' x σ H8 hx ⟨v7', rfl, s8⟩
          obtain ⟨d, k⟩ := hz x (List.mem_of_getElem? hx)
          have k8 : Cl H8 x d := cl_up s8 (cl_del k)
          have R8 := rowsF_same s8 R7
          refine ⟨_, rfl, _, rfl, r, x, d, rows, rfl, rowsF_at R8, hg, by omega, k8, fun H9 s9 => ?_⟩
          refine ⟨_, rfl, _, rfl, _, rfl, r, x, d, rows, rfl, rowsF_same s9 R8, hg, by omega, cl_up s9 k8, fun H10 s10 => ?_⟩
          refine ⟨_, rfl, rfl, _, rfl, ?_⟩
          refine iteNS rfl ?_
          exact ⟨_, rfl, (s8.trans s9).trans s10⟩
        · rintro σ H8 ⟨v7', rfl, s8⟩
          exact ⟨_, _, _, _, _, _, _, rfl, (Same.trans (by rw [eG]; exact same_del s06 hp) s7).trans s8⟩
    · rintro σ H1 ⟨v1, v2, v3, v4, v5, v6, v7, rfl, s1⟩
      refine ⟨(by show 2 ≤ PySem.sizeLine; decide), fun b1 hb1 => ?_⟩
      have mb1 := same_new (o := HO.tup [.str "b", .str "a"]) hb1
      refine ⟨(by show 2 ≤ PySem.sizeLine; decide), fun b2 hb2 => ?_⟩
      have mb2 := same_new (o := HO.tup [.str "a", .str "b"]) hb2
      refine ⟨(by show 2 ≤ PySem.sizeLine; decide), fun rr hrr => ?_⟩
      have mrr := same_new (o := HO.tup [.ref b1, .ref b2]) hrr
      refine ⟨(by show 3 ≤ PySem.sizeLine; decide), fun g1 hg1 => ?_⟩
      have mg1 := same_new (o := HO.tup [.str "b", .str "a", .int 0]) hg1
      refine ⟨(by show 3 ≤ PySem.sizeLine; decide), fun g2 hg2 => ?_⟩
      have mg2 := same_new (o := HO.tup [.str "a", .str "b", .int 1]) hg2
      refine ⟨(by show 2 ≤ PySem.sizeLine; decide), fun G1 hG1 => ?_⟩
      have mG1 := same_new (o := HO.tup [.ref g1, .ref g2]) hG1
      refine ⟨(by show 3 ≤ PySem.sizeLine; decide), fun g3 hg3 => ?_⟩
      have mg3 := same_new (o := HO.tup [.str "a", .str "b", .int 1]) hg3
      refine ⟨(by show 3 ≤ PySem.sizeLine; decide), fun g4 hg4 => ?_⟩
      have mg4 := same_new (o := HO.tup [.str "b", .str "a", .int 0]) hg4
      refine ⟨(by show 3 ≤ PySem.sizeLine; decide), fun g5 hg5 => ?_⟩
      have mg5 := same_new (o := HO.tup [.str "a", .str "b", .int 1]) hg5
      refine ⟨(by show 3 ≤ PySem.sizeLine; decide), fun g6 hg6 => ?_⟩
      have mg6 := same_new (o := HO.tup [.str "b", .str "a", .int 0]) hg6
      refine ⟨(by show 4 ≤ PySem.sizeLine; decide), fun G2 hG2 => ?_⟩
      have mG2 := same_new (o := HO.tup [.ref g3, .ref g4, .ref g5, .ref g6]) hG2
      refine ⟨(by show 2 ≤ PySem.sizeLine; decide), fun L1 hL1 => ?_⟩
      have mL1 := same_new (o := HO.lst [.ref G1, .ref G2]) hL1
      refine ⟨_, rfl, (by show 3 ≤ PySem.sizeLine; decide), fun g7 hg7 => ?_⟩
      have mg7 := same_new (o := HO.tup [.str "b", .str "a", .int 0]) hg7
      refine ⟨(by show 1 ≤ PySem.sizeLine; decide), fun G3 hG3 => ?_⟩
      have mG3 := same_new (o := HO.tup [.ref g7]) hG3
      refine ⟨(by show 3 ≤ PySem.sizeLine; decide), fun g8 hg8 => ?_⟩
      have mg8 := same_new (o := HO.tup [.str "b", .str "a", .int 0]) hg8
      refine ⟨(by show 3 ≤ PySem.sizeLine; decide), fun g9 hg9 => ?_⟩
      have mg9 := same_new (o := HO.tup [.str "b", .str "a", .int 0]) hg9
      refine ⟨(by show 2 ≤ PySem.sizeLine; decide), fun G4 hG4 => ?_⟩
      have mG4 := same_new (o := HO.tup [.ref g8, .ref g9]) hG4
      refine ⟨(by show 2 ≤ PySem.sizeLine; decide), fun L2 hL2 => ?_⟩
      have mL2 := same_new (o := HO.lst [.ref G3, .ref G4]) hL2
      refine ⟨L1, L2, _, _, rfl, rfl, (mg7.trans (mG3.trans (mg8.trans (mg9.trans (mG4.trans (mL2)))))) _ _ (upd_of hL1), upd_of hL2, (by show 2 + 2 ≤ PySem.sizeLine; decide), fun L hL => ?_⟩
      have zz := same_new (o := HO.lst ([.ref G1, .ref G2] ++ [.ref G3, .ref G4])) hL
      have xL2 := zz _ _ (upd_of (o := HO.lst [.ref G3, .ref G4]) hL2)
      have zL2 := mL2.trans zz
      have xG4 := zL2 _ _ (upd_of (o := HO.tup [.ref g8, .ref g9]) hG4)
      have zG4 := mG4.trans zL2
      have xg9 := zG4 _ _ (upd_of (o := HO.tup [.str "b", .str "a", .int 0]) hg9)
      have zg9 := mg9.trans zG4
      have xg8 := zg9 _ _ (upd_of (o := HO.tup [.str "b", .str "a", .int 0]) hg8)
      have zg8 := mg8.trans zg9
      have xG3 := zg8 _ _ (upd_of (o := HO.tup [.ref g7]) hG3)
      have zG3 := mG3.trans zg8
      have xg7 := zG3 _ _ (upd_of (o := HO.tup [.str "b", .str "a", .int 0]) hg7)
      have zg7 := mg7.trans zG3
      have xL1 := zg7 _ _ (upd_of (o := HO.lst [.ref G1, .ref G2]) hL1)
      have zL1 := mL1.trans zg7
      have xG2 := zL1 _ _ (upd_of (o := HO.tup [.ref g3, .ref g4, .ref g5, .ref g6]) hG2)
      have zG2 := mG2.trans zL1
      have xg6 := zG2 _ _ (upd_of (o := HO.tup [.str "b", .str "a", .int 0]) hg6)
      have zg6 := mg6.trans zG2
      have xg5 := zg6 _ _ (upd_of (o := HO.tup [.str "a", .str "b", .int 1]) hg5)
      have zg5 := mg5.trans zg6
      have xg4 := zg5 _ _ (upd_of (o := HO.tup [.str "b", .str "a", .int 0]) hg4)
      have zg4 := mg4.trans zg5
      have xg3 := zg4 _ _ (upd_of (o := HO.tup [.str "a", .str "b", .int 1]) hg3)
      have zg3 := mg3.trans zg4
      have xG1 := zg3 _ _ (upd_of (o := HO.tup [.ref g1, .ref g2]) hG1)
      have zG1 := mG1.trans zg3
      have xg2 := zG1 _ _ (upd_of (o := HO.tup [.str "a", .str "b", .int 1]) hg2)
      have zg2 := mg2.trans zG1
      have xg1 := zg2 _ _ (upd_of (o := HO.tup [.str "b", .str "a", .int 0]) hg1)
      have zg1 := mg1.trans zg2
      have xrr := zg1 _ _ (upd_of (o := HO.tup [.ref b1, .ref b2]) hrr)
      have zrr := mrr.trans zg1
      have xb2 := zrr _ _ (upd_of (o := HO.tup [.str "a", .str "b"]) hb2)
      have zb2 := mb2.trans zrr
      have xb1 := zb2 _ _ (upd_of (o := HO.tup [.str "b", .str "a"]) hb1)
      have zb1 := mb1.trans zb2
      have xL := upd_of (o := HO.lst ([.ref G1, .ref G2] ++ [.ref G3, .ref G4])) hL
      generalize (upd _ L _) = C at xb1 xb2 xrr xg1 xg2 xG1 xg3 xg4 xg5 xg6 xG2 xL1 xg7 xG3 xg8 xg9 xG4 xL2 xL ⊢
      have w : ∀ z ∈ (["a", "b"] : List Str), Word z := fun z hz => by
        have h1 : (["a", "b"] : List Str).all (fun z => decide (z.length ≤ 1000) && PyData.strOk z) = true := by decide +kernel
        have h2 := List.all_eq_true.mp h1 z hz
        rw [Bool.and_eq_true, decide_eq_true_eq] at h2
        exact h2
      have wa : Word "a" := w _ (by simp)
      have wb : Word "b" := w _ (by simp)
      obtain ⟨rows, erows⟩ : ∃ rows : List (List Str), rows = [(["b", "a"] : List Str), (["a", "b"] : List Str)] := ⟨_, rfl⟩
      have RR : RowsAt C rr rows := by
        refine ⟨[b1, b2], xrr, by rw [erows]; rfl, fun k a row e1 e2 => ?_⟩
        rw [erows] at e2
        match k, e1, e2 with
        | 0, e1, e2 =>
          cases e1
          cases e2
          exact .inl xb1
        | 1, e1, e2 =>
          cases e1
          cases e2
          exact .inl xb2
      have gd : ∀ row ∈ rows, GoodRow row := fun row hr => by
        rw [erows] at hr
        have isn : (["a", "b"] : List Str).all isNm = true := by decide +kernel
        have na : isNm "a" = true := List.all_eq_true.mp isn _ (by simp)
        have nb : isNm "b" = true := List.all_eq_true.mp isn _ (by simp)
        have nab : (("a" : Str) == "b") = false := by decide +kernel
        have ne : ("a" : Str) ≠ "b" := fun z => by
          rw [z] at nab
          have : (("b" : Str) == "b") = true := by decide +kernel
          rw [this] at nab
          cases nab
        simp only [List.mem_cons, List.not_mem_nil, or_false] at hr
        rcases hr with rfl | rfl
        · refine ⟨by simp [Ne.symm ne], fun z hz => ?_, by decide⟩
          simp only [List.mem_cons, List.not_mem_nil, or_false] at hz
          rcases hz with rfl | rfl
          · exact ⟨nb, wb⟩
          · exact ⟨na, wa⟩
        · refine ⟨by simp [ne], fun z hz => ?_, by decide⟩
          simp only [List.mem_cons, List.not_mem_nil, or_false] at hz
          rcases hz with rfl | rfl
          · exact ⟨na, wa⟩
          · exact ⟨nb, wb⟩
      have t0 : ∀ {u : Addr}, C u = some (.tup [.str "b", .str "a", .int 0]) → Td C 6 (.ref u) (.tuple [.str "b", .str "a", .int 0]) := fun e => .tup e (by show 3 ≤ 1000; decide) (.cons (.str wb) (.cons (.str wa) (.cons (.int 0) .nil)))
      have t1 : ∀ {u : Addr}, C u = some (.tup [.str "a", .str "b", .int 1]) → Td C 6 (.ref u) (.tuple [.str "a", .str "b", .int 1]) := fun e => .tup e (by show 3 ≤ 1000; decide) (.cons (.str wa) (.cons (.str wb) (.cons (.int 1) .nil)))
      obtain ⟨ds, eds⟩ : ∃ ds : List PyData, ds = [.tuple [.tuple [.str "b", .str "a", .int 0], .tuple [.str "a", .str "b", .int 1]], .tuple [.tuple [.str "a", .str "b", .int 1], .tuple [.str "b", .str "a", .int 0], .tuple [.str "a", .str "b", .int 1], .tuple [.str "b", .str "a", .int 0]],
        .tuple [.tuple [.str "b", .str "a", .int 0]], .tuple [.tuple [.str "b", .str "a", .int 0], .tuple [.str "b", .str "a", .int 0]]] := ⟨_, rfl⟩
      have tds : Tds C 7 [.ref G1, .ref G2, .ref G3, .ref G4] ds := by
        rw [eds]
        exact .cons (.tup xG1 (by show 2 ≤ 1000; decide) (.cons (t0 xg1) (.cons (t1 xg2) .nil))) (.cons (.tup xG2 (by show 4 ≤ 1000; decide) (.cons (t1 xg3) (.cons (t0 xg4) (.cons (t1 xg5) (.cons (t0 xg6) .nil)))))
          (.cons (.tup xG3 (by show 1 ≤ 1000; decide) (.cons (t0 xg7) .nil)) (.cons (.tup xG4 (by show 2 ≤ 1000; decide) (.cons (t0 xg8) (.cons (t0 xg9) .nil))) .nil)))
      have exp : ds.map (clashD rows) = [true, true, false, false] := by
        rw [eds, erows]
        decide +kernel
      have rlen : rows.length ≤ 100 := by rw [erows]; decide
      clear eds erows
      refine ⟨_, rfl, L, rfl, ⟨_, SqL.of xL⟩, fun D hD => ?_⟩
      refine lc_list (K := K) (a := L) (xs := [.ref G1, .ref G2, .ref G3, .ref G4]) (fun k H2 => Same C H2 ∧ H2 D = some (.lst (((ds.map (clashD rows)).take k).map V.bl))) ⟨same_new hD, upd_same⟩ (fun k H2 _ ⟨s2, _⟩ => SqL.of (s2 _ _ xL)) (fun k v H2 hx ⟨s2, eN⟩ => ?_) (fun H2 ⟨s2, eN⟩ => ?_)
      · obtain ⟨d, ed, td⟩ := tds_get tds hx
        have hk : k < 4 := (List.getElem?_eq_some_iff.mp hx).1
        refine ⟨rfl, _, rfl, _, rfl, rr, v, d, rows, rfl, rows_same s2 RR, gd, rlen, .inl (td_up (td_same s2 td)), fun H3 s3 => ?_⟩
        refine ⟨_, s3 _ _ eN, ?_, same_at (s2.trans s3) hD, ?_⟩
        · rw [List.length_map, List.length_take]
          exact small1000 (by omega)
        · rw [upd_same, List.take_add_one, List.getElem?_map, ed, List.map_append]
          rfl
      · refine ⟨(by show 4 ≤ PySem.sizeLine; decide), fun e he => ?_⟩
        have l4 : [V.ref G1, V.ref G2, V.ref G3, V.ref G4].length = 4 := rfl
        rw [exp, l4] at eN
        have nDe := ne_of_none eN he
        refine ⟨.list [.bool true, .bool true, .bool false, .bool false], .list [.bool true, .bool true, .bool false, .bool false], .lst (SqL.of (same_new he _ _ eN)) (.cons (.bl _) (.cons (.bl _) (.cons (.bl _) (.cons (.bl _) .nil)))), .lst (SqL.of upd_same) (.cons (.bl _) (.cons (.bl _) (.cons (.bl _) (.cons (.bl _) .nil)))), by decide +kernel, by decide +kernel, ?_⟩
        rw [show PyData.eqv (.list [.bool true, .bool true, .bool false, .bool false]) (.list [.bool true, .bool true, .bool false, .bool false]) = true by decide +kernel]
        exact q _
end
end K06

set_option Elab.async false
set_option maxRecDepth 100000
set_option maxHeartbeats 8000000
namespace K06
open PySem L2 Nb
theorem all_mk {l : PySem.W.OpenLaw} {w : World} {K : PySem.W.Frag} {h : Heap} {mg : Str → Option Value} {fa f1 f2 f3 f4 f5 f6 f7 f8 f9 f10 f11 f12 f13 f14 f15 f16 f17 f18 : Addr} (X : K.In h) (G : h.Ns mainGlobals mg) (hfa : mg "law" = some (.ref fa))
    {od1 an1 od2 an2 od3 an3 od4 an4 od5 an5 od6 an6 od7 an7 od8 an8 od9 an9 od10 an10 od11 an11 od12 an12 od13 an13 od14 an14 od15 an15 od16 an16 od17 an17 od18 an18 : Option Addr}
    {sl1 sl2 sl3 sl4 sl5 sl6 sl7 sl8 sl9 sl10 sl11 sl12 sl13 sl14 sl15 sl16 sl17 sl18 : Array (Option Value)}
    {oc1 kV1 dc1 pm1 cd1 ct1 oc2 kV2 dc2 pm2 cd2 ct2 oc3 kV3 dc3 pm3 cd3 ct3 oc4 kV4 dc4 pm4 cd4 ct4 oc5 kV5 dc5 pm5 cd5 ct5 oc6 kV6 dc6 pm6 cd6 ct6 oc7 kV7 dc7 pm7 cd7 ct7 oc8 kV8 dc8 pm8 cd8 ct8 oc9 kV9 dc9 pm9 cd9 ct9 oc10 kV10 dc10 pm10 cd10 ct10 oc11 kV11 dc11 pm11 cd11 ct11 oc12 kV12 dc12 pm12 cd12 ct12 oc13 kV13 dc13 pm13 cd13 ct13 oc14 kV14 dc14 pm14 cd14 ct14 oc15 kV15 dc15 pm15 cd15 ct15 oc16 kV16 dc16 pm16 cd16 ct16 oc17 kV17 dc17 pm17 cd17 ct17 oc18 kV18 dc18 pm18 cd18 ct18 : Value}
    (a1 : PySem.W.nsIn K mainGlobals "is_name" = some (some (.ref f1))) (l1 : K.lookup f1 = some ⟨oc1, od1, .func (PySem.W.fnOf "is_name" "is_name" (defArgs sName) (defBody sName) (defScope sName) .none kV1 dc1 pm1 an1 cd1 ct1), sl1⟩) (c1 : PySem.W.codeIn K cd1 "is_name" = true) (k1 : PySem.W.keepIn K (.ref f1) = true)
    (a2 : PySem.W.nsIn K mainGlobals "are_names" = some (some (.ref f2))) (l2 : K.lookup f2 = some ⟨oc2, od2, .func (PySem.W.fnOf "are_names" "are_names" (defArgs sNames) (defBody sNames) (defScope sNames) .none kV2 dc2 pm2 an2 cd2 ct2), sl2⟩) (c2 : PySem.W.codeIn K cd2 "are_names" = true) (k2 : PySem.W.keepIn K (.ref f2) = true)
    (a3 : PySem.W.nsIn K mainGlobals "are_different_names" = some (some (.ref f3))) (l3 : K.lookup f3 = some ⟨oc3, od3, .func (PySem.W.fnOf "are_different_names" "are_different_names" (defArgs sDiff) (defBody sDiff) (defScope sDiff) .none kV3 dc3 pm3 an3 cd3 ct3), sl3⟩) (c3 : PySem.W.codeIn K cd3 "are_different_names" = true) (k3 : PySem.W.keepIn K (.ref f3) = true)
    (a4 : PySem.W.nsIn K mainGlobals "is_clash" = some (some (.ref f4))) (l4 : K.lookup f4 = some ⟨oc4, od4, .func (PySem.W.fnOf "is_clash" "is_clash" (defArgs sClash) (defBody sClash) (defScope sClash) .none kV4 dc4 pm4 an4 cd4 ct4), sl4⟩) (c4 : PySem.W.codeIn K cd4 "is_clash" = true) (k4 : PySem.W.keepIn K (.ref f4) = true)
    (a5 : PySem.W.nsIn K mainGlobals "_check_tuples" = some (some (.ref f5))) (l5 : K.lookup f5 = some ⟨oc5, od5, .func (PySem.W.fnOf "_check_tuples" "_check_tuples" (defArgs sCheck) (defBody sCheck) (defScope sCheck) .none kV5 dc5 pm5 an5 cd5 ct5), sl5⟩) (c5 : PySem.W.codeIn K cd5 "_check_tuples" = true) (k5 : PySem.W.keepIn K (.ref f5) = true)
    (a6 : PySem.W.nsIn K mainGlobals "_is_step" = some (some (.ref f6))) (l6 : K.lookup f6 = some ⟨oc6, od6, .func (PySem.W.fnOf "_is_step" "_is_step" (defArgs sStep) (defBody sStep) (defScope sStep) .none kV6 dc6 pm6 an6 cd6 ct6), sl6⟩) (c6 : PySem.W.codeIn K cd6 "_is_step" = true) (k6 : PySem.W.keepIn K (.ref f6) = true)
    (a7 : PySem.W.nsIn K mainGlobals "is_index" = some (some (.ref f7))) (l7 : K.lookup f7 = some ⟨oc7, od7, .func (PySem.W.fnOf "is_index" "is_index" (defArgs sIndex) (defBody sIndex) (defScope sIndex) .none kV7 dc7 pm7 an7 cd7 ct7), sl7⟩) (c7 : PySem.W.codeIn K cd7 "is_index" = true) (k7 : PySem.W.keepIn K (.ref f7) = true)
    (a8 : PySem.W.nsIn K mainGlobals "_law_source" = some (some (.ref f8))) (l8 : K.lookup f8 = some ⟨oc8, od8, .func (PySem.W.fnOf "_law_source" "_law_source" (defArgs sSource) (defBody sSource) (defScope sSource) .none kV8 dc8 pm8 an8 cd8 ct8), sl8⟩) (c8 : PySem.W.codeIn K cd8 "_law_source" = true) (k8 : PySem.W.keepIn K (.ref f8) = true)
    (a9 : PySem.W.nsIn K mainGlobals "_law_next" = some (some (.ref f9))) (l9 : K.lookup f9 = some ⟨oc9, od9, .func (PySem.W.fnOf "_law_next" "_law_next" (defArgs sNext) (defBody sNext) (defScope sNext) .none kV9 dc9 pm9 an9 cd9 ct9), sl9⟩) (c9 : PySem.W.codeIn K cd9 "_law_next" = true) (k9 : PySem.W.keepIn K (.ref f9) = true)
    (a10 : PySem.W.nsIn K mainGlobals "_law_pick" = some (some (.ref f10))) (l10 : K.lookup f10 = some ⟨oc10, od10, .func (PySem.W.fnOf "_law_pick" "_law_pick" (defArgs sPick) (defBody sPick) (defScope sPick) .none kV10 dc10 pm10 an10 cd10 ct10), sl10⟩) (c10 : PySem.W.codeIn K cd10 "_law_pick" = true) (k10 : PySem.W.keepIn K (.ref f10) = true)
    (a11 : PySem.W.nsIn K mainGlobals "_law_mixed" = some (some (.ref f11))) (l11 : K.lookup f11 = some ⟨oc11, od11, .func (PySem.W.fnOf "_law_mixed" "_law_mixed" (defArgs sMixed) (defBody sMixed) (defScope sMixed) .none kV11 dc11 pm11 an11 cd11 ct11), sl11⟩) (c11 : PySem.W.codeIn K cd11 "_law_mixed" = true) (k11 : PySem.W.keepIn K (.ref f11) = true)
    (a12 : PySem.W.nsIn K mainGlobals "_law_within" = some (some (.ref f12))) (l12 : K.lookup f12 = some ⟨oc12, od12, .func (PySem.W.fnOf "_law_within" "_law_within" (defArgs sWithin) (defBody sWithin) (defScope sWithin) .none kV12 dc12 pm12 an12 cd12 ct12), sl12⟩) (c12 : PySem.W.codeIn K cd12 "_law_within" = true) (k12 : PySem.W.keepIn K (.ref f12) = true)
    (a13 : PySem.W.nsIn K mainGlobals "_law_name_rows" = some (some (.ref f13))) (l13 : K.lookup f13 = some ⟨oc13, od13, .func (PySem.W.fnOf "_law_name_rows" "_law_name_rows" (defArgs sRows) (defBody sRows) (defScope sRows) .none kV13 dc13 pm13 an13 cd13 ct13), sl13⟩) (c13 : PySem.W.codeIn K cd13 "_law_name_rows" = true) (k13 : PySem.W.keepIn K (.ref f13) = true)
    (a14 : PySem.W.nsIn K mainGlobals "_law_clash_fits" = some (some (.ref f14))) (l14 : K.lookup f14 = some ⟨oc14, od14, .func (PySem.W.fnOf "_law_clash_fits" "_law_clash_fits" (defArgs sFits) (defBody sFits) (defScope sFits) .none kV14 dc14 pm14 an14 cd14 ct14), sl14⟩) (c14 : PySem.W.codeIn K cd14 "_law_clash_fits" = true) (k14 : PySem.W.keepIn K (.ref f14) = true)
    (a15 : PySem.W.nsIn K mainGlobals "_law_tuple_steps" = some (some (.ref f15))) (l15 : K.lookup f15 = some ⟨oc15, od15, .func (PySem.W.fnOf "_law_tuple_steps" "_law_tuple_steps" (defArgs sSteps) (defBody sSteps) (defScope sSteps) .none kV15 dc15 pm15 an15 cd15 ct15), sl15⟩) (c15 : PySem.W.codeIn K cd15 "_law_tuple_steps" = true) (k15 : PySem.W.keepIn K (.ref f15) = true)
    (a16 : PySem.W.nsIn K mainGlobals "_law_walked_steps" = some (some (.ref f16))) (l16 : K.lookup f16 = some ⟨oc16, od16, .func (PySem.W.fnOf "_law_walked_steps" "_law_walked_steps" (defArgs sWalked) (defBody sWalked) (defScope sWalked) .none kV16 dc16 pm16 an16 cd16 ct16), sl16⟩) (c16 : PySem.W.codeIn K cd16 "_law_walked_steps" = true) (k16 : PySem.W.keepIn K (.ref f16) = true)
    (a17 : PySem.W.nsIn K mainGlobals "_law_near_clashes" = some (some (.ref f17))) (l17 : K.lookup f17 = some ⟨oc17, od17, .func (PySem.W.fnOf "_law_near_clashes" "_law_near_clashes" (defArgs sNear) (defBody sNear) (defScope sNear) .none kV17 dc17 pm17 an17 cd17 ct17), sl17⟩) (c17 : PySem.W.codeIn K cd17 "_law_near_clashes" = true) (k17 : PySem.W.keepIn K (.ref f17) = true)
    (a18 : PySem.W.nsIn K mainGlobals "law" = some (some (.ref f18))) (l18 : K.lookup f18 = some ⟨oc18, od18, .func (PySem.W.fnOf "law" "law" (defArgs sLaw) (defBody sLaw) (defScope sLaw) .none kV18 dc18 pm18 an18 cd18 ct18), sl18⟩) (c18 : PySem.W.codeIn K cd18 "law" = true) (k18 : PySem.W.keepIn K (.ref f18) = true)
    (z_len : PySem.W.nsIn K mainGlobals "len" = some none)
    (z_isinstance : PySem.W.nsIn K mainGlobals "isinstance" = some none)
    (z_str : PySem.W.nsIn K mainGlobals "str" = some none)
    (z_tuple : PySem.W.nsIn K mainGlobals "tuple" = some none)
    (z_all : PySem.W.nsIn K mainGlobals "all" = some none)
    (z_set : PySem.W.nsIn K mainGlobals "set" = some none)
    (z_int : PySem.W.nsIn K mainGlobals "int" = some none)
    (z_bool : PySem.W.nsIn K mainGlobals "bool" = some none)
    (z_enumerate : PySem.W.nsIn K mainGlobals "enumerate" = some none)
    (z_range : PySem.W.nsIn K mainGlobals "range" = some none)
    (z_repr : PySem.W.nsIn K mainGlobals "repr" = some none)
    (z_list : PySem.W.nsIn K mainGlobals "list" = some none)
    (z_max : PySem.W.nsIn K mainGlobals "max" = some none)
    (z_min : PySem.W.nsIn K mainGlobals "min" = some none)
    {t8 : Tok} (m__LONGEST_NAME : PySem.W.nsIn K mainGlobals "_LONGEST_NAME" = some (some (.int 8 t8)))
    {t3 : Tok} (m__STEP_PARTS : PySem.W.nsIn K mainGlobals "_STEP_PARTS" = some (some (.int 3 t3)))
    {t2 : Tok} (m__FEWEST_STEPS : PySem.W.nsIn K mainGlobals "_FEWEST_STEPS" = some (some (.int 2 t2))) :
    ∃ fd : FuncData, (∀ (s : Shared) (v : Value), BindsTo s fd ⟨[v], []⟩ [("_law_script", v)]) ∧ ∀ base : Heap, K.In base → base.Ns mainGlobals mg → FnOk l.prog w K mg base CX0 6 fa fd ["_law_script"] (spLaw K) := by
  have e := hfa.symm.trans (PySem.W.mg_of X G a18)
  cases e
  have FNm := fun_mk (st := sName) l1 c1 k1
  have bNm := FNm.binds (ps := ["thing"]) fun _ _ _ _ _ _ us hl => match us, hl with | [_], _ => rfl
  have gNm := PySem.W.mg_of X G a1
  have FNs := fun_mk (st := sNames) l2 c2 k2
  have bNs := FNs.binds (ps := ["thing"]) fun _ _ _ _ _ _ us hl => match us, hl with | [_], _ => rfl
  have gNs := PySem.W.mg_of X G a2
  have FDf := fun_mk (st := sDiff) l3 c3 k3
  have bDf := FDf.binds (ps := ["thing"]) fun _ _ _ _ _ _ us hl => match us, hl with | [_], _ => rfl
  have gDf := PySem.W.mg_of X G a3
  have FCl := fun_mk (st := sClash) l4 c4 k4
  have bCl := FCl.binds (ps := ["tuples", "thing"]) fun _ _ _ _ _ _ us hl => match us, hl with | [_, _], _ => rfl
  have gCl := PySem.W.mg_of X G a4
  have FCh := fun_mk (st := sCheck) l5 c5 k5
  have bCh := FCh.binds (ps := ["tuples"]) fun _ _ _ _ _ _ us hl => match us, hl with | [_], _ => rfl
  have gCh := PySem.W.mg_of X G a5
  have FSt := fun_mk (st := sStep) l6 c6 k6
  have bSt := FSt.binds (ps := ["spots", "thing"]) fun _ _ _ _ _ _ us hl => match us, hl with | [_, _], _ => rfl
  have gSt := PySem.W.mg_of X G a6
  have FIx := fun_mk (st := sIndex) l7 c7 k7
  have bIx := FIx.binds (ps := ["thing", "many"]) fun _ _ _ _ _ _ us hl => match us, hl with | [_, _], _ => rfl
  have gIx := PySem.W.mg_of X G a7
  have FS := fun_mk (st := sSource) l8 c8 k8
  have bS := FS.binds (ps := ["_law_script", "_law_k"]) fun _ _ _ _ _ _ us hl => match us, hl with | [_, _], _ => rfl
  have gS := PySem.W.mg_of X G a8
  have FN := fun_mk (st := sNext) l9 c9 k9
  have bN := FN.binds (ps := ["_law_source_here", "_law_many"]) fun _ _ _ _ _ _ us hl => match us, hl with | [_, _], _ => rfl
  have gN := PySem.W.mg_of X G a9
  have FP := fun_mk (st := sPick) l10 c10 k10
  have bP := FP.binds (ps := ["_law_source_here", "_law_items"]) fun _ _ _ _ _ _ us hl => match us, hl with | [_, _], _ => rfl
  have gP := PySem.W.mg_of X G a10
  have FM := fun_mk (st := sMixed) l11 c11 k11
  have bM := FM.binds (ps := ["_law_source_here", "_law_items"]) fun _ _ _ _ _ _ us hl => match us, hl with | [_, _], _ => rfl
  have gM := PySem.W.mg_of X G a11
  have FWi := fun_mk (st := sWithin) l12 c12 k12
  have bWi := FWi.binds (ps := ["_law_part", "_law_whole"]) fun _ _ _ _ _ _ us hl => match us, hl with | [_, _], _ => rfl
  have gWi := PySem.W.mg_of X G a12
  have FR := fun_mk (st := sRows) l13 c13 k13
  have bR := FR.binds (ps := ["_law_source_here", "_law_many", "_law_most", "_law_is_free"]) fun _ _ _ _ _ _ us hl => match us, hl with | [_, _, _, _], _ => rfl
  have gR := PySem.W.mg_of X G a13
  have FFi := fun_mk (st := sFits) l14 c14 k14
  have bFi := FFi.binds (ps := ["_law_rows", "_law_thing"]) fun _ _ _ _ _ _ us hl => match us, hl with | [_, _], _ => rfl
  have gFi := PySem.W.mg_of X G a14
  have FTs := fun_mk (st := sSteps) l15 c15 k15
  have bTs := FTs.binds (ps := ["_law_rows"]) fun _ _ _ _ _ _ us hl => match us, hl with | [_], _ => rfl
  have gTs := PySem.W.mg_of X G a15
  have FWa := fun_mk (st := sWalked) l16 c16 k16
  have bWa := FWa.binds (ps := ["_law_source_here", "_law_steps", "_law_most"]) fun _ _ _ _ _ _ us hl => match us, hl with | [_, _, _], _ => rfl
  have gWa := PySem.W.mg_of X G a16
  have FNe := fun_mk (st := sNear) l17 c17 k17
  have bNe := FNe.binds (ps := ["_law_source_here", "_law_thing"]) fun _ _ _ _ _ _ us hl => match us, hl with | [_, _], _ => rfl
  have gNe := PySem.W.mg_of X G a17
  have FL := fun_mk (st := sLaw) l18 c18 k18
  have n_len := PySem.W.mg_none_of X G z_len
  have n_isinstance := PySem.W.mg_none_of X G z_isinstance
  have n_str := PySem.W.mg_none_of X G z_str
  have n_tuple := PySem.W.mg_none_of X G z_tuple
  have n_all := PySem.W.mg_none_of X G z_all
  have n_set := PySem.W.mg_none_of X G z_set
  have n_int := PySem.W.mg_none_of X G z_int
  have n_bool := PySem.W.mg_none_of X G z_bool
  have n_enumerate := PySem.W.mg_none_of X G z_enumerate
  have n_range := PySem.W.mg_none_of X G z_range
  have n_repr := PySem.W.mg_none_of X G z_repr
  have n_list := PySem.W.mg_none_of X G z_list
  have n_max := PySem.W.mg_none_of X G z_max
  have n_min := PySem.W.mg_none_of X G z_min
  have g__LONGEST_NAME := PySem.W.mg_of X G m__LONGEST_NAME
  have g__STEP_PARTS := PySem.W.mg_of X G m__STEP_PARTS
  have g__FEWEST_STEPS := PySem.W.mg_of X G m__FEWEST_STEPS
  refine ⟨PySem.W.fnOf "law" "law" (defArgs sLaw) (defBody sLaw) (defScope sLaw) .none kV18 dc18 pm18 an18 cd18 ct18, fun s v => .of_eq rfl, fun base _ _ => ?_⟩
  have TN : NamesTxt mg := ⟨n_len, n_isinstance, n_str, n_tuple, n_all, n_set⟩
  have T : Txt mg := ⟨TN, n_len, n_isinstance, n_tuple, n_int, n_bool, n_all, n_enumerate, n_range, n_repr, n_list, n_max, n_min⟩
  have GN : FnOk l.prog w K mg base CX0 1 _ _ _ spNext := ok_next FN
  have GP : FnOk l.prog w K mg base CX0 2 _ _ _ spPick := ok_pick FP FN bN gN n_len
  have GNm : FnOk l.prog w K mg base CX0 1 _ _ _ (spName K) := ok_name FNm TN g__LONGEST_NAME
  have GDf : FnOk l.prog w K mg base CX0 3 _ _ _ (spOf K diffOf) := ok_diff FDf TN FNm bNm gNm FNs bNs gNs g__LONGEST_NAME
  have GCh : FnOk l.prog w K mg base CX0 4 _ _ _ spCheck := ok_check FCh T FDf bDf gDf GDf
  have GIx : FnOk l.prog w K mg base CX0 1 _ _ _ spIndex := ok_index FIx T
  have GSt : FnOk l.prog w K mg base CX0 2 _ _ _ spStep := ok_step FSt T FNm bNm gNm GNm FIx bIx gIx GIx g__STEP_PARTS
  have GCl : FnOk l.prog w K mg base CX0 5 _ _ _ spClash := ok_clash FCl T FCh bCh gCh GCh FSt bSt gSt GSt g__FEWEST_STEPS
  have GM : FnOk l.prog w K mg base CX0 2 _ _ _ spMixed := ok_mixed FM T FN bN gN GN
  have GWi : FnOk l.prog w K mg base CX0 1 _ _ _ spWithin := ok_within FWi T
  have GR : FnOk l.prog w K mg base CX0 3 _ _ _ spRows := ok_rows FR T FN bN gN GN FM bM gM GM
  have GFi : FnOk l.prog w K mg base CX0 2 _ _ _ spFits := ok_fits FFi T FWi bWi gWi GWi
  have GTs : FnOk l.prog w K mg base CX0 1 _ _ _ spSteps := ok_steps FTs T
  have GWa : FnOk l.prog w K mg base CX0 3 _ _ _ spWalked := ok_walked FWa T FP bP gP GP
  have GNe : FnOk l.prog w K mg base CX0 2 _ _ _ spNear := ok_near FNe T FN bN gN GN
  exact ok_law FL T FS bS gS (ok_source FS n_len) FN bN gN GN FR bR gR GR FTs bTs gTs GTs FWa bWa gWa GWa FNe bNe gNe GNe FCl bCl gCl GCl FFi bFi gFi GFi
end K06
open PySem PySem.W PyProof.Rows
set_option maxRecDepth 100000 in
set_option maxHeartbeats 0 in
theorem PySem.Challenge.cw_nextbehind_k06_clashes_judged_holds : PySem.Challenge.rw_nextbehind_k06_clashes_judged.Holds := by
  w_on; o_law; k_head; (case hw => w_witness2)
  k_fill
  refine L2.walk_of (l := PySem.Challenge.rw_nextbehind_k06_clashes_judged) (n := 63) (k := 6) (x := "_law_script") (CX := fun _ => L2.CX0) (sp := fun w => Nb.spLaw _) rfl (by decide) rfl ⟨rfl, by decide, by decide⟩ (fun w h Y => PySem.W.kIn_of Y) ?F (fun _ _ a ns hl _ hS => ⟨a, ns, rfl, hS, hl, fun _ => rfl⟩) (fun _ _ _ _ _ h => h)
  case F =>
    intro w mg fa h KX G hmg
    refine' K06.all_mk KX G hmg ?a1 ?l1 ?c1 ?k1 ?a2 ?l2 ?c2 ?k2 ?a3 ?l3 ?c3 ?k3 ?a4 ?l4 ?c4 ?k4 ?a5 ?l5 ?c5 ?k5 ?a6 ?l6 ?c6 ?k6 ?a7 ?l7 ?c7 ?k7 ?a8 ?l8 ?c8 ?k8 ?a9 ?l9 ?c9 ?k9 ?a10 ?l10 ?c10 ?k10 ?a11 ?l11 ?c11 ?k11 ?a12 ?l12 ?c12 ?k12 ?a13 ?l13 ?c13 ?k13 ?a14 ?l14 ?c14 ?k14 ?a15 ?l15 ?c15 ?k15 ?a16 ?l16 ?c16 ?k16 ?a17 ?l17 ?c17 ?k17 ?a18 ?l18 ?c18 ?k18 ?z_len ?z_isinstance ?z_str ?z_tuple ?z_all ?z_set ?z_int ?z_bool ?z_enumerate ?z_range ?z_repr ?z_list ?z_max ?z_min ?m__LONGEST_NAME ?m__STEP_PARTS ?m__FEWEST_STEPS
    (case a1 => k_is)
    (case l1 => k_is)
    (case c1 => k_is)
    (case k1 => k_is)
    (case a2 => k_is)
    (case l2 => k_is)
    (case c2 => k_is)
    (case k2 => k_is)
    (case a3 => k_is)
    (case l3 => k_is)
    (case c3 => k_is)
    (case k3 => k_is)
    (case a4 => k_is)
    (case l4 => k_is)
    (case c4 => k_is)
    (case k4 => k_is)
    (case a5 => k_is)
    (case l5 => k_is)
    (case c5 => k_is)
    (case k5 => k_is)
    (case a6 => k_is)
    (case l6 => k_is)
    (case c6 => k_is)
    (case k6 => k_is)
    (case a7 => k_is)
    (case l7 => k_is)
    (case c7 => k_is)
    (case k7 => k_is)
    (case a8 => k_is)
    (case l8 => k_is)
    (case c8 => k_is)
    (case k8 => k_is)
    (case a9 => k_is)
    (case l9 => k_is)
    (case c9 => k_is)
    (case k9 => k_is)
    (case a10 => k_is)
    (case l10 => k_is)
    (case c10 => k_is)
    (case k10 => k_is)
    (case a11 => k_is)
    (case l11 => k_is)
    (case c11 => k_is)
    (case k11 => k_is)
    (case a12 => k_is)
    (case l12 => k_is)
    (case c12 => k_is)
    (case k12 => k_is)
    (case a13 => k_is)
    (case l13 => k_is)
    (case c13 => k_is)
    (case k13 => k_is)
    (case a14 => k_is)
    (case l14 => k_is)
    (case c14 => k_is)
    (case k14 => k_is)
    (case a15 => k_is)
    (case l15 => k_is)
    (case c15 => k_is)
    (case k15 => k_is)
    (case a16 => k_is)
    (case l16 => k_is)
    (case c16 => k_is)
    (case k16 => k_is)
    (case a17 => k_is)
    (case l17 => k_is)
    (case c17 => k_is)
    (case k17 => k_is)
    (case a18 => k_is)
    (case l18 => k_is)
    (case c18 => k_is)
    (case k18 => k_is)
    (case z_len => k_is)
    (case z_isinstance => k_is)
    (case z_str => k_is)
    (case z_tuple => k_is)
    (case z_all => k_is)
    (case z_set => k_is)
    (case z_int => k_is)
    (case z_bool => k_is)
    (case z_enumerate => k_is)
    (case z_range => k_is)
    (case z_repr => k_is)
    (case z_list => k_is)
    (case z_max => k_is)
    (case z_min => k_is)
    (case m__LONGEST_NAME => k_is)
    (case m__STEP_PARTS => k_is)
    (case m__FEWEST_STEPS => k_is)
