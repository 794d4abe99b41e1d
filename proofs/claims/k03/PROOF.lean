import PyProof.Rows.All
import Wide.All
import OpenK.AllK
import Wide.FinOn
import HandS.ForMost
import HandS.Strs
import HandS.IsInst
import HandS.Wide
import HandS.Walk
import KE.GoesEnum
import KE.GoesMore
import HandS.TupAny
import HandS.DictComp
import HandS.Deep
import HandS.Exc
import HandS.ExcField
import HandS.ExcIs
import HandS.ExcInit
import KE.KExcIs
import HandS.Ends
import PyProof.Rows.RegFStrParts
import HandS.ForExc
import HandS.TupMul
import PySem.Challenge.RW_nextbehind_k03_methods_recognized
set_option Elab.async false
set_option maxRecDepth 100000
/-! How many different texts a tuple holds: the value of len(set(t)). -/
namespace Nb
open PySem PySem.Spec PyProof.Rows L2
/-- the different texts of a list, each where it is met first -/
def dis : List Str → List Str
  | [] => []
  | x :: r => x :: (dis r).filter (fun y => !(y == x))
/-- seen so far: one text more -/
def grow (l : List Str) (x : Str) : List Str := if l.any (· == x) then l else l ++ [x]
def seen (xs : List Str) : List Str := xs.foldl grow []
theorem seen_snoc (xs : List Str) (x : Str) : seen (xs ++ [x]) = grow (seen xs) x := by
  unfold seen
  rw [List.foldl_append]
  rfl
theorem grow_any (l : List Str) (x k : Str) : (grow l x).any (· == k) = (l.any (· == k) || decide (k = x)) := by
  unfold grow
  by_cases h : l.any (· == x) = true
  · rw [if_pos h]
    by_cases e : k = x
    · subst e
      rw [h]
      rfl
    · simp [e]
  · rw [if_neg h, List.any_append]
    by_cases e : k = x
    · subst e
      simp
    · have e2 : (x == k) = false := beq_eq_false_iff_ne.mpr fun z => e z.symm
      simp [e, e2]
theorem grow_len (l : List Str) (x : Str) : (grow l x).length = if l.any (· == x) = true then l.length else l.length + 1 := by
  unfold grow
  split <;> simp
theorem grow_le (l : List Str) (x : Str) : (grow l x).length ≤ l.length + 1 := by
  rw [grow_len]
  split <;> omega
theorem seen_le : ∀ xs : List Str, (seen xs).length ≤ xs.length := by
  have key : ∀ (xs l : List Str), (xs.foldl grow l).length ≤ l.length + xs.length := by
    intro xs
    induction xs with
    | nil => intro l; exact Nat.le_refl _
    | cons x r ih =>
      intro l
      have h1 := ih (grow l x)
      have h2 := grow_le l x
      show (r.foldl grow (grow l x)).length ≤ l.length + (r.length + 1)
      omega
  intro xs
  have h := key xs []
  simpa [seen] using h

section
variable {P : Program} {w : World} {A : Around} {E : Value → Shared → Prop} {s : Shared}
abbrev SetS (P : Program) (w : World) (h : Heap) (S : Addr) (l : List Str) : Prop := h.SetOf (PySem.strKind P w) S (fun k => l.any (· == k)) l.length
theorem SetS.to {h h' : Heap} {S : Addr} {l : List Str} (x : SetS P w h S l) (k : ∀ o, h.get? S = some o → h'.get? S = some o) : SetS P w h' S l :=
  let ⟨o, es, ep, t, ho, r⟩ := x
  ⟨o, es, ep, t, k o ho, r⟩
/-- the set takes what is walked, text by text -/
theorem takes_texts {I : Addr} {fp wr : List Addr} {G : Array GenState → Array GenState → Prop} {n : Nat} {Pv : Nat → Value → Prop} {St : Nat → Shared → Prop} {R : Result → Shared → Prop}
    (W : WalksS P w A.in1 I fp wr G n Pv St) (S : Addr) (apart : S ∉ fp) (xs : List Str) (size : n = xs.length) (few : xs.length + 1 < scanBound) (val : ∀ i v, Pv i v → ∃ x t, xs[i]? = some x ∧ v = .str x t) :
    ∀ (m i : Nat) (s : Shared), m + i = n → St i s → SetS P w s.heap S (seen (xs.take i)) →
      (∀ s', Moved (S :: wr) G s s' → SetS P w s'.heap S (seen xs) → R (.ok (.ret .none)) s') → codeAny (model P w) A (.builtin "set.update.loop" ⟨[.ref S, .ref I], []⟩) R s := by
  have out : S ∉ wr := fun z => apart (W.sub _ z)
  have wide : ∀ b ∈ wr, b ∈ S :: wr := fun b z => List.mem_cons_of_mem _ z
  intro m
  induction m with
  | zero =>
    intro i s em here held fin
    refine codeAny_builtin F.entry_set_update_loop (by
      rw [Around.under_plainId F.plain_set_update_loop _]
      refine wpAny_bind (m := pyNext (.ref I)) (W.done s _ _ (by rw [← em, Nat.zero_add]; exact here) fun s' mv => ?_)
      refine wpAny_pure (fin s' (mv.mono wide) ?_)
      have all : xs.take i = xs := List.take_of_length_le (by omega)
      rw [all] at held
      exact held.to fun o e => mv.heap S o out e)
  | succ m ih =>
    intro i s em here held fin
    refine codeAny_builtin F.entry_set_update_loop (by
      rw [Around.under_plainId F.plain_set_update_loop _]
      refine wpAny_bind (m := pyNext (.ref I)) (W.item i s _ _ (by omega) here fun v s' hv here' mv => ?_)
      obtain ⟨x, t, ex, rfl⟩ := val i v hv
      have held' : SetS P w s'.heap S (seen (xs.take i)) := held.to fun o e => mv.heap S o out e
      refine wpAny_bind (m := holding [Value.str x t] (setAdd S (.str x t))) (wpAny_holding ?_)
      unfold setAdd
      refine wpAny_holding (wpAny_bind ((PySem.strKind P w).pyHash (k := x) (strKind_is _ _ _ _) ?_))
      have room : (seen (xs.take i)).length + 1 < scanBound := by
        have h1 := seen_le (xs.take i)
        have h2 : (xs.take i).length ≤ xs.length := by rw [List.length_take]; omega
        omega
      refine wpAny_setAddHashed_of (knd := PySem.strKind P w) (s := { s' with toks := s'.toks + 1 }) (strKind_is _ _ _ _) rfl held' room fun h' only more => ?_
      have step : seen (xs.take (i + 1)) = grow (seen (xs.take i)) x := by
        rw [List.take_add_one, ex]
        exact seen_snoc _ _
      have held2 : SetS P w h' S (seen (xs.take (i + 1))) := by
        rw [step]
        exact SetOf_congr more (fun k => (grow_any _ _ _).symm) (grow_len _ _).symm
      have still : ∀ b, b ≠ S → ∀ o, s'.heap.get? b = some o → h'.get? b = some o := fun b nb o e => by
        rw [only.2 b nb]
        exact e
      exact wpAny_pure ⟨plainId_quiet F.plain_set_update_loop _, ih (i + 1) _ (by omega) (W.frame _ s' _ _ here' (Nat.le_succ _) fun b hb o e => still b (fun z => apart (z ▸ hb)) o e) held2 fun s2 mv2 held3 =>
        fin s2 (Moved.trans W.gtrans ((mv.mono wide).then_heap (Nat.le_succ _) fun b o hb e => still b (fun z => hb (z ▸ List.mem_cons_self)) o e) mv2) held3⟩)
/-- an empty set as it is laid -/
abbrev bareSet (led : Bool) : Obj := { cls := .type "set", dict := none, data := .set #[] 0 (.fresh 0 0 led) }
set_option maxHeartbeats 3200000 in
/-- set(t), t a tuple of texts -/
theorem set_of_texts {l : Addr} {items : Array Value} {xs : List Str} {Q : Value → Shared → Prop} (calm : A.handled = none) (tup : s.heap.IsTuple l items) (txt : StrsAre items.toList xs) (few : xs.length + 1 < scanBound)
    (h : ∀ (h' : Heap) (tk : Nat), SetS P w h' s.heap.objs.size (seen xs) → (∀ b o, s.heap.get? b = some o → h'.get? b = some o) → Q (.ref s.heap.objs.size) { s with heap := h', toks := tk }) :
    wpAny (model P w) A (call (.type "set") [.ref l]) Q E s := by
  have size : items.size = xs.length := by
    have q := StrsAre.len_eq txt
    rw [Array.length_toList] at q
    exact q
  obtain ⟨c, tl, hmro⟩ := F.called_set.mro
  have g1 := F.called_set.made
  have g2 := F.called_set.sub
  have g3 := F.called_set.notType
  have g4 := F.called_set.canCreate
  have g5 := F.typeCall_set_1 (.ref l)
  refine wpAny_call (codeAny_of_tree (show wpAny _ _ (callAny (.type "set") _) _ _ _ from wpAny_pure ⟨Code.quiet_builtin _ (by decide +kernel), codeAny_builtin F.entry_type_call ?_⟩))
  rw [Around.under_plain (weight_type_call_type "set" [.ref l] []) rfl]
  repeat (any_goals (first | assumption | wp_step))
  refine codeAny_mono (code_set_new_1 (.ref l) (E := E) (Q₁ := fun obj s₁ => ∃ led : Bool, obj = .ref s.heap.objs.size ∧ s₁ = { s with heap := s.heap.push (bareSet led) }) fun led => ⟨led, rfl, rfl⟩) fun r s₁ hr => ?_
  rcases r with e | fl
  · exact hr
  cases fl with
  | ret obj =>
    obtain ⟨led, rfl, rfl⟩ := hr
    have at0 : (s.heap.push (bareSet led)).get? s.heap.objs.size = some (bareSet led) := Heap.get?_push_size _ rfl
    have ty0 : Shared.TypeIs { s with heap := s.heap.push (bareSet led) } (.ref s.heap.objs.size) "set" := ⟨_, at0, rfl⟩
    have g6 := F.called_set.init.lookup
    have g7 := F.called_set.init.bind (.ref s.heap.objs.size)
    repeat (any_goals (first | assumption | wp_step))
    refine codeAny_mono (codeAny_call_builtin (R := wants (fun r s₂ => r = .none ∧ ∃ h' tk, s₂ = { s with heap := h', toks := tk } ∧ SetS P w h' s.heap.objs.size (seen xs) ∧ (∀ b o, s.heap.get? b = some o → h'.get? b = some o)) E)
      F.called_set.init.plain F.entry_set_init (check_set_init_1 ty0 ?_)) fun r₂ s₂ hr₂ => ?_
    · obtain ⟨⟨ocls, odict, odata, oslots⟩, ho, hc, nl, hd⟩ := tup
      simp only at hc hd
      subst hc hd
      have ho1 : (s.heap.push (bareSet led)).get? l = some { cls := .type "tuple", dict := odict, data := .seq items nl, slots := oslots } := Heap.get?_push_of_some _ ho
      have g8 := F.sub_tuple_set
      have g9 := F.sub_tuple_frozenset
      have g10 : (Value.type "tuple" == Value.type "dict") = false := by decide
      have tup1 : (s.heap.push (bareSet led)).IsTuple l items := ⟨_, ho1, rfl, nl, rfl⟩
      unfold Builtin.«set.__init__» noKeywords Builtin.Frozenset.updateFrom
      generalize hPI : pyIter = PI
      wp_walk
      subst hPI
      refine wpAny_pyIter_tuple tup1 (wpAny_bind (wpAny_runValue ?_))
      have lt0 : l < s.heap.objs.size := Heap.lt_size ho
      have sz1 : (s.heap.push (bareSet led)).objs.size = s.heap.objs.size + 1 := Heap.size_push ..
      have calm3 : A.in1.in1.in1.handled = none := by simp [calm]
      have ne1 : l ≠ (s.heap.push (bareSet led)).objs.size := by
        rw [sz1]
        exact Nat.ne_of_lt (Nat.lt_succ_of_lt lt0)
      have apart : s.heap.objs.size ∉ [(s.heap.push (bareSet led)).objs.size, l] := fun z => by
        rcases List.mem_cons.mp z with z | z
        · rw [sz1] at z
          exact absurd z (Nat.ne_of_lt (Nat.lt_succ_self _))
        · exact absurd (List.mem_singleton.mp z) (Nat.ne_of_gt lt0)
      refine takes_texts ((Walks.tuple calm3 _ l ne1 items).toS) s.heap.objs.size apart xs size few (fun i v hv => ?_) items.size 0 _ (by omega) ⟨⟨_, Heap.get?_push_size _ rfl, rfl, rfl⟩, (tup1.push _)⟩ ?start fun s' mv held => ?_
      case start =>
        have at1 : ((s.heap.push (bareSet led)).push { cls := .type "tuple_iterator", data := .fields #[.ref l, .int 0 0] }).get? s.heap.objs.size = some (bareSet led) := Heap.get?_push_of_some _ at0
        exact SetOf_congr ((setObjOf_fresh (knd := PySem.strKind P w) led).setOf at1 (by unfold scanBound; omega)) (fun _ => rfl) rfl
      · have hi : i < xs.length := by
          rw [← size]
          exact (Array.getElem?_eq_some_iff.mp hv).1
        obtain ⟨t, e⟩ := SS.strs_at txt i v (by rw [Array.getElem?_toList]; exact hv)
        refine ⟨xs[i], t, List.getElem?_eq_getElem hi, ?_⟩
        rw [e, List.getD_eq_getElem?_getD, List.getElem?_eq_getElem hi]
        rfl
      · obtain ⟨h', gn, dr, tk, os'⟩ := s'
        have eg : gn = s.gens := mv.gens
        have ed : dr = s.drawn := mv.drawn
        have eo : os' = s.os := mv.os
        subst eg ed eo
        refine wpAny_pure ?_
        show wpAny _ _ (ret Value.none) _ _ _
        refine wpAny_pure ⟨rfl, h', tk, rfl, held, fun b o e => ?_⟩
        have lt1 : b < s.heap.objs.size := Heap.lt_size e
        refine mv.heap b o (fun z => ?_) (Heap.get?_push_of_some _ (Heap.get?_push_of_some _ e))
        rcases List.mem_cons.mp z with z | z
        · exact absurd z (Nat.ne_of_lt lt1)
        · rw [List.mem_singleton.mp z, sz1] at lt1
          exact absurd (Nat.lt_trans lt1 (Nat.lt_succ_self _)) (by
            intro q
            have := Nat.lt_of_lt_of_le lt1 (Nat.le_refl _)
            omega)
    · rcases r₂ with e | fl₂
      · exact hr₂
      cases fl₂ with
      | ret r =>
        obtain ⟨rfl, h', tk, rfl, held, kept⟩ := hr₂
        repeat (any_goals (first | assumption | wp_step))
        exact h _ _ held kept
      | _ => exact hr₂.elim
  | _ => exact hr.elim
end
section
variable {X : Cx}
theorem texts_of : ∀ {xs : List Str} {us : List Value}, Vals (xs.map V.str) us → StrsAre us xs
  | [], _, .nil => .nil
  | x :: xs, _, .cons r t => by
    obtain ⟨k, rfl⟩ := r
    exact .cons x k (texts_of t)
/-- len(set(t)), t a tuple of texts -/
def tManyS (K : PySem.W.Frag) (ta : TE) : TE := fun σ H Q => ta σ H fun x H1 => ∃ (l : Addr) (xs : List Str), x = .ref l ∧ SqT K H1 l (xs.map V.str) ∧ xs.length ≤ 4000 ∧ Q (.int ((seen xs).length : Nat)) H1
theorem pe_manyS {a : Expr} {ta : TE} {p p2 q pos : Pos} (hg : Gl X "len") (hm : X.mg "len" = none) (hg2 : Gl X "set") (hm2 : X.mg "set" = none) (ha : PE X a ta) (hc : X.calm = true := by rfl)
    (na : starEach [a] X.env = (false, eval a X.env) :: starEach [] X.env := by rfl) : PE X (.Call (.Name "len" p) [.Call (.Name "set" p2) [a] [] q] [] pos) (tManyS X.K ta) := by
  refine ⟨fun pins s σ H Q I h => Call_ (ld_blt I hg hm boot_len (callWith_builtin1 (args_cons (Call_ (ld_blt I hg2 hm2 boot_set ?_)) rfl) rfl rfl))⟩
  refine callWith_type1 (args_cons (thn (ha.run pins s σ H _ I h) fun v s1 ⟨x, H1, I1, r1, q1⟩ => args_nil ?_) na) na rfl
  obtain ⟨l, xs, rfl, hq, hl, q1⟩ := q1
  cases r1
  obtain ⟨its, r, pl, hz⟩ := I1.tuple hq
  have few := seen_le xs
  refine set_of_texts (I1.ok.hd hc) pl (by simpa using texts_of r) (by unfold scanBound; omega) fun h' tk held kept => args_nil ?_
  obtain ⟨o, es, ep, t, ho, hex, hd, _, _, _, hf, hn⟩ := held
  exact call_len_set ho hex hd hf (by rw [hn]; omega) ⟨.int (seen xs).length, H1, (I1.kept kept).tok _, ⟨_, by rw [hn]⟩, q1⟩
end
end Nb

set_option Elab.async false
set_option maxRecDepth 100000
set_option maxHeartbeats 4000000
/-! Heaps, and the numbers that the laws draw: what is common to all of them. -/
namespace Nb
open PySem L2
/-! ### heaps -/
theorem same_new {H : Hp} {p : Addr} {o : HO} (h : H p = none) : Same H (upd H p o) := fun b x e => by
  rw [upd_ne (ne_of_none e h)]
  exact e
/-- F says nothing of p: so what is stored at p leaves F as it is -/
theorem same_at {F H : Hp} {p : Addr} {o : HO} (s : Same F H) (h : F p = none) : Same F (upd H p o) := fun b x e => by
  rw [upd_ne (ne_of_none e h)]
  exact s _ _ e
theorem same_in {F H : Hp} {p : Addr} {o : HO} (s : Same F H) (h : H p = none) : Same F (upd H p o) := s.trans (same_new h)
/-- the heap without p -/
def del (H : Hp) (p : Addr) : Hp := fun b => if b = p then none else H b
theorem del_at {H : Hp} {p : Addr} : del H p p = none := if_pos rfl
theorem del_ne {H : Hp} {p b : Addr} (h : b ≠ p) : del H p b = H b := if_neg h
theorem del_same {H : Hp} {p : Addr} : Same (del H p) H := fun b o e => by
  by_cases h : b = p
  · subst h
    rw [del_at] at e
    cases e
  · rw [del_ne h] at e
    exact e
theorem same_del {F H : Hp} {p : Addr} (s : Same F H) (h : F p = none) : Same F (del H p) := fun b o e => by
  rw [del_ne (ne_of_none e h)]
  exact s _ _ e
theorem Same.tup {K : PySem.W.Frag} {H H' : Hp} {a : Addr} {xs : List V} (e : Same H H') (h : SqT K H a xs) : SqT K H' a xs := by
  rcases h with (h | ⟨o, h⟩) | h
  · exact .inl (.inl (e _ _ h))
  · exact .inl (.inr ⟨o, e _ _ h⟩)
  · exact .inr h
/-! ### data under more objects -/
section
variable {K : PySem.W.Frag} {H H' : Hp} (s : Same H H')
include s
mutual
theorem dp_same : ∀ (d : PyData) (v : V), Dp K H v d → Dp K H' v d
  | .none, _, .non => .non
  | .bool b, _, .bl _ => .bl b
  | .int i, _, .int _ => .int i
  | .str x, _, .str _ => .str x
  | .list ds, _, .lst h1 h2 => .lst (s.seq h1) (dp_sames ds _ h2)
  | .tuple ds, _, .tup h1 h2 => .tup (Nb.Same.tup s h1) (dp_sames ds _ h2)
theorem dp_sames : ∀ (ds : List PyData) (vs : List V), DpAll K H vs ds → DpAll K H' vs ds
  | [], _, .nil => .nil
  | d :: ds, _, .cons h1 h2 => .cons (dp_same d _ h1) (dp_sames ds _ h2)
end
end
theorem dp_ints {K : PySem.W.Frag} {H : Hp} : ∀ ns : List Int, DpAll K H (ns.map V.int) (ns.map PyData.int)
  | [] => .nil
  | n :: ns => .cons (.int n) (dp_ints ns)
/-- data without dicts, whose texts are texts, not deeper than n -/
def Fine (n : Nat) (d : PyData) : Prop := d.canLay0 = true ∧ d.depth ≤ n
theorem Fine.mono {n m : Nat} {d : PyData} (h : Fine n d) (l : n ≤ m) : Fine m d := ⟨h.1, Nat.le_trans h.2 l⟩
theorem Fine.shaped {n : Nat} {d : PyData} (h : Fine n d) (l : n ≤ 64) : SeqAt.shaped d = true := by
  unfold SeqAt.shaped
  rw [h.1, Bool.true_and]
  exact decide_eq_true (Nat.le_trans h.2 l)
theorem fine_all : ∀ {n : Nat} {ds : List PyData}, (∀ d ∈ ds, Fine n d) → PyData.canLayAll0 ds = true ∧ PyData.depthAll ds ≤ n
  | n, [], _ => by simp [PyData.canLayAll0, PyData.depthAll]
  | n, d :: ds, h => by
    have h1 := h d (List.mem_cons_self ..)
    have h2 := fine_all (n := n) (ds := ds) fun e he => h e (List.mem_cons_of_mem _ he)
    refine ⟨by simp [PyData.canLayAll0, h1.1, h2.1], ?_⟩
    simp only [PyData.depthAll]
    exact Nat.max_le.mpr ⟨h1.2, h2.2⟩
theorem fine_list {n : Nat} {ds : List PyData} (h : ∀ d ∈ ds, Fine n d) : Fine (n + 1) (.list ds) := by
  have k := fine_all h
  exact ⟨by simpa [PyData.canLay0] using k.1, by simpa [PyData.depth] using k.2⟩
theorem fine_tup {n : Nat} {ds : List PyData} (h : ∀ d ∈ ds, Fine n d) : Fine (n + 1) (.tuple ds) := by
  have k := fine_all h
  exact ⟨by simpa [PyData.canLay0] using k.1, by simpa [PyData.depth] using k.2⟩
theorem fine_int (i : Int) : Fine 0 (.int i) := ⟨by simp [PyData.canLay0], by simp [PyData.depth]⟩
theorem fine_non : Fine 0 .none := ⟨by simp [PyData.canLay0], by simp [PyData.depth]⟩
theorem fine_bl (b : Bool) : Fine 0 (.bool b) := ⟨by simp [PyData.canLay0], by simp [PyData.depth]⟩
theorem fine_str {x : Str} (h : PyData.strOk x = true) : Fine 0 (.str x) := ⟨by simpa [PyData.canLay0] using h, by simp [PyData.depth]⟩
theorem fine_ints (ns : List Int) : Fine 1 (.list (ns.map PyData.int)) := fine_list fun d hd => by
  obtain ⟨i, _, rfl⟩ := List.mem_map.mp hd
  exact fine_int i
theorem eqv_nil (ds : List PyData) : PyData.eqv (.list ds) (.list []) = ds.isEmpty := by
  cases ds <;> simp [PyData.eqv, PyData.eqvAll]
/-! ### the source of numbers: a list of three ints -/
def Src (H : Hp) (p : Addr) (b : Nat) : Prop := ∃ c n r : Int, H p = some (.lst [.int c, .int n, .int r]) ∧ 0 ≤ n ∧ n ≤ b
theorem Src.mono {H : Hp} {p : Addr} {b c : Nat} (h : Src H p b) (l : b ≤ c) : Src H p c := by
  obtain ⟨x, n, r, h1, h2, h3⟩ := h
  exact ⟨x, n, r, h1, h2, by omega⟩
theorem Src.some {H : Hp} {p : Addr} {b : Nat} (h : Src H p b) : ∃ o, H p = some o := let ⟨_, _, _, e, _⟩ := h; ⟨_, e⟩
theorem Src.same {F H : Hp} {p : Addr} {b : Nat} (h : Src F p b) (s : Same F H) : Src H p b :=
  let ⟨c, n, r, e, k⟩ := h; ⟨c, n, r, s _ _ e, k⟩
/-- _law_source's promise -/
def spSource (K : PySem.W.Frag) : Sp := fun vs H Q _ => ∃ (a : Addr) (ns : List Int) (k : Nat), vs = [.ref a, .int k] ∧ SqL K H a (ns.map V.int) ∧ ns.length ≤ 63 ∧ k ≤ 1000 ∧
  ∀ H' p, Same H H' → H p = none → Src H' p (3 * k) → Q (.ref p) H'
/-- _law_next's: a number below the second argument; nothing but the source is changed -/
def spNext : Sp := fun vs H Q _ => ∃ (p : Addr) (m : Int) (b : Nat) (F : Hp), vs = [.ref p, .int m] ∧ 1 ≤ m ∧ m < 1000000 ∧ Src H p b ∧ b ≤ 1000000 ∧ F p = none ∧ Same F H ∧
  ∀ H' k, 0 ≤ k → k < m → Same F H' → Src H' p (b + 1) → Q (.int k) H'
/-- _law_pick's: an item of the list -/
def spPick : Sp := fun vs H Q _ => ∃ (p l : Addr) (xs : List V) (b : Nat) (F : Hp), vs = [.ref p, .ref l] ∧ F l = some (.lst xs) ∧ 1 ≤ xs.length ∧ xs.length ≤ 1000 ∧ Src H p b ∧ b ≤ 1000000 ∧ F p = none ∧ Same F H ∧
  ∀ H' x, x ∈ xs → Same F H' → Src H' p (b + 1) → Q x H'
/-! ### frames: what stands beside the source -/
theorem grow_same {F H : Hp} {l : Addr} {o : HO} (s : Same F H) (h : H l = none) : Same F (upd F l o) := same_new (s.free h)
theorem grow_up {F H : Hp} {l : Addr} {o : HO} (s : Same F H) : Same (upd F l o) (upd H l o) := fun b x e => by
  by_cases hb : b = l
  · subst hb
    rw [upd_same] at e ⊢
    exact e
  · rw [upd_ne hb] at e ⊢
    exact s _ _ e
theorem grow_at {F H : Hp} {p l : Addr} {o : HO} {b : Nat} (hF : F p = none) (S : Src H p b) (h : H l = none) : (upd F l o) p = none := by
  obtain ⟨u, e⟩ := S.some
  rw [upd_ne (ne_of_none e h)]
  exact hF
theorem src_new {H : Hp} {p l : Addr} {o : HO} {b : Nat} (S : Src H p b) (h : H l = none) : Src (upd H l o) p b := S.same (same_new h)
/-- what stood at b, not the source, stands there behind a call that was framed by the heap without the source -/
theorem del_get {H H' : Hp} {p b : Addr} {o : HO} (s : Same (del H p) H') (n : b ≠ p) (e : H b = some o) : H' b = some o := s _ _ (by rw [del_ne n]; exact e)
theorem src_ne {H : Hp} {p b : Addr} {n : Nat} {o : HO} (S : Src H p n) (e : H b = some o) (d : ∀ xs, o ≠ .lst xs) : b ≠ p := by
  obtain ⟨c, m, r, e2, _⟩ := S
  exact ne_of e e2 (d _)
/-- the primes -/
def primes : List Int := [2147483647, 2147483629, 2147483587, 2147483579, 2147483563, 2147483549, 2147483543, 2147483497, 2147483489, 2147483477, 2147483423]
theorem prime_at (k : Int) (h0 : 0 ≤ k) (h : k < 11) : ∃ q : Int, atI (primes.map V.int) k = some (.int q) ∧ 2 ≤ q ∧ q < 2 ^ 31 := by
  have hk : k = 0 ∨ k = 1 ∨ k = 2 ∨ k = 3 ∨ k = 4 ∨ k = 5 ∨ k = 6 ∨ k = 7 ∨ k = 8 ∨ k = 9 ∨ k = 10 := by omega
  rcases hk with rfl | rfl | rfl | rfl | rfl | rfl | rfl | rfl | rfl | rfl | rfl
  all_goals exact ⟨_, rfl, by decide, by decide⟩
theorem fmod_pos (x : Int) {m : Int} (h : 1 ≤ m) : 0 ≤ x.fmod m ∧ x.fmod m < m := by
  rw [Int.fmod_eq_emod_of_nonneg x (by omega)]
  exact ⟨Int.emod_nonneg _ (by omega), Int.emod_lt_of_pos _ (by omega)⟩
end Nb

set_option Elab.async false
set_option maxRecDepth 100000
set_option maxHeartbeats 4000000
/-! Names and rows of names, as values. -/
namespace Nb
open PySem L2
def lowA : List Nat := ("a" : Str).cps.toList
def lowZ : List Nat := ("z" : Str).cps.toList
def letterOk (c : Nat) : Bool := !decide ([c] < lowA) && !decide (lowZ < [c])
def isNm (z : Str) : Bool := decide (1 ≤ (z.length : Int)) && decide ((z.length : Int) ≤ 8) && z.cps.toList.all letterOk
def nameV : V → Bool
  | .str z => isNm z
  | _ => false
/-- what is known of a value that may be a name -/
def Known (K : PySem.W.Frag) (H : Hp) (x : V) : Prop := (∃ z, x = .str z ∧ z.length ≤ 1000 ∧ PyData.strOk z = true) ∨ (∀ z, x ≠ .str z) ∧ ∃ T, TyX K H x (.type T) ∧ kitB T "str" = some false
def Item (K : PySem.W.Frag) (H : Hp) (x : V) : Prop := Known K H x ∧ ∃ d, Dp K H x d ∧ Fine 8 d
def tupOf (H : Hp) : V → Option (List V)
  | .ref a => match H a with
    | some (.tup xs) => some xs
    | some (.frz _ (.tup xs)) => some xs
    | _ => none
  | _ => none
def Thing (K : PySem.W.Frag) (H : Hp) (x : V) : Prop :=
  (∃ a xs, x = .ref a ∧ Rd H a (.tup xs) ∧ xs.length ≤ 1000 ∧ ∀ y ∈ xs, Item K H y) ∨ (∀ H', Same H H' → tupOf H' x = none) ∧ ∃ T, TyX K H x (.type T) ∧ kitB T "tuple" = some false
def strsOf (xs : List V) : List Str := xs.filterMap fun | .str z => some z | _ => none
def diffV (xs : List V) : Bool := xs.all nameV && decide (((seen (strsOf xs)).length : Int) = xs.length)
def namesV (H : Hp) (x : V) : Bool := match tupOf H x with
  | some xs => xs.all nameV
  | none => false
def diffOf (H : Hp) (x : V) : Bool := match tupOf H x with
  | some xs => diffV xs
  | none => false
def rowV (H : Hp) (x : V) : Bool := match tupOf H x with
  | some xs => diffV xs && decide ((xs.length : Int) ≤ 4)
  | none => false
theorem tupOf_at {H : Hp} {a : Addr} {xs : List V} (h : Rd H a (.tup xs)) : tupOf H (.ref a) = some xs := by
  show (match H a with | some (.tup xs) => some xs | some (.frz _ (.tup xs)) => some xs | _ => none) = some xs
  rcases h with h | ⟨o, h⟩
  · rw [h]
  · rw [h]
theorem rd_same {H H' : Hp} (s : Same H H') {a : Addr} {u : HO} (h : Rd H a u) : Rd H' a u := by
  rcases h with h | ⟨o, h⟩
  · exact .inl (s _ _ h)
  · exact .inr ⟨o, s _ _ h⟩
theorem rd_ty {K : PySem.W.Frag} {H : Hp} {a : Addr} {xs : List V} (h : Rd H a (.tup xs)) : TyX K H (.ref a) (.type "tuple") := by
  rcases h with h | ⟨o, h⟩
  · exact .base (.tup h)
  · exact .fTuple h
theorem strs_map : ∀ {xs : List V}, xs.all nameV = true → xs = (strsOf xs).map V.str
  | [], _ => rfl
  | x :: xs, h => by
    rw [List.all_cons, Bool.and_eq_true] at h
    have ih := strs_map h.2
    cases x with
    | str z =>
      show V.str z :: xs = V.str z :: (strsOf xs).map V.str
      rw [← ih]
    | _ => exact absurd h.1 (by simp [nameV])
theorem tyx_same {K : PySem.W.Frag} {H H' : Hp} (s : Same H H') {x : V} {t : Value} (h : TyX K H x t) : TyX K H' x t := by
  cases h with
  | base b =>
    refine .base ?_
    cases b with
    | non => exact .non
    | bl x => exact .bl x
    | int i => exact .int i
    | str x => exact .str x
    | flt x => exact .flt x
    | lst e => exact .lst (s _ _ e)
    | frz e => exact .frz (s _ _ e)
    | tup e => exact .tup (s _ _ e)
    | dK e => exact .dK (s _ _ e)
    | dT e => exact .dT (s _ _ e)
    | ins e cl ha hn htk hm => exact .ins (s _ _ e) cl ha hn htk hm
  | byt b => exact .byt b
  | set e => exact .set (s _ _ e)
  | kList e c => exact .kList e c
  | kTuple e c => exact .kTuple e c
  | kDict e c => exact .kDict e c
  | fTuple e => exact .fTuple (s _ _ e)
  | fDict e => exact .fDict (s _ _ e)
theorem known_same {K : PySem.W.Frag} {H H' : Hp} (s : Same H H') {x : V} (h : Known K H x) : Known K H' x := by
  rcases h with h | ⟨h1, T, h2, h3⟩
  · exact .inl h
  · exact .inr ⟨h1, T, tyx_same s h2, h3⟩
theorem item_same {K : PySem.W.Frag} {H H' : Hp} (s : Same H H') {x : V} (h : Item K H x) : Item K H' x :=
  ⟨known_same s h.1, let ⟨d, h1, h2⟩ := h.2; ⟨d, dp_same s d x h1, h2⟩⟩
theorem thing_same {K : PySem.W.Frag} {H H' : Hp} (s : Same H H') {x : V} (h : Thing K H x) : Thing K H' x := by
  rcases h with ⟨a, xs, h1, h2, h3, h4⟩ | ⟨h1, T, h2, h3⟩
  · exact .inl ⟨a, xs, h1, rd_same s h2, h3, fun y hy => item_same s (h4 y hy)⟩
  · exact .inr ⟨fun H2 s2 => h1 H2 (s.trans s2), T, tyx_same s h2, h3⟩
theorem thing_tup {K : PySem.W.Frag} {H H' : Hp} (s : Same H H') {x : V} (h : Thing K H x) : tupOf H' x = tupOf H x := by
  rcases h with ⟨a, xs, rfl, h2, h3, h4⟩ | ⟨h1, _⟩
  · rw [tupOf_at h2, tupOf_at (rd_same s h2)]
  · rw [h1 _ s, h1 _ (Same.refl H)]
theorem thing_row {K : PySem.W.Frag} {H H' : Hp} (s : Same H H') {x : V} (h : Thing K H x) : rowV H' x = rowV H x := by
  unfold rowV
  rw [thing_tup s h]
/-- a value that is no object -/
theorem thing_flat {K : PySem.W.Frag} {H : Hp} {x : V} (h : ∀ a, x ≠ .ref a) {T : String} (t : TyX K H x (.type T)) (k : kitB T "tuple" = some false) : Thing K H x := by
  refine .inr ⟨fun H' _ => ?_, T, t, k⟩
  cases x with
  | ref a => exact absurd rfl (h a)
  | _ => rfl
theorem thing_str {K : PySem.W.Frag} {H : Hp} (z : Str) : Thing K H (.str z) := thing_flat (fun a => by intro e; cases e) (.base (.str z)) (by decide +kernel)
theorem thing_lst {K : PySem.W.Frag} {H : Hp} {a : Addr} {xs : List V} (h : H a = some (.lst xs)) : Thing K H (.ref a) := by
  refine .inr ⟨fun H' s => ?_, "list", .base (.lst h), by decide +kernel⟩
  show (match H' a with | some (.tup xs) => some xs | some (.frz _ (.tup xs)) => some xs | _ => none) = none
  rw [s _ _ h]
theorem thing_dct {K : PySem.W.Frag} {H : Hp} {a : Addr} {xs : List (Key × V)} (h : H a = some (.dK xs)) : Thing K H (.ref a) := by
  refine .inr ⟨fun H' s => ?_, "dict", .base (.dK h), by decide +kernel⟩
  show (match H' a with | some (.tup xs) => some xs | some (.frz _ (.tup xs)) => some xs | _ => none) = none
  rw [s _ _ h]
theorem known_str {K : PySem.W.Frag} {H : Hp} {z : Str} (h : z.length ≤ 1000) (o : PyData.strOk z = true) : Known K H (.str z) := .inl ⟨z, rfl, h, o⟩
theorem known_non {K : PySem.W.Frag} {H : Hp} : Known K H .non := .inr ⟨(fun z e => by cases e), "NoneType", .base .non, by decide +kernel⟩
theorem known_int {K : PySem.W.Frag} {H : Hp} (i : Int) : Known K H (.int i) := .inr ⟨(fun z e => by cases e), "int", .base (.int i), by decide +kernel⟩
theorem known_bl {K : PySem.W.Frag} {H : Hp} (b : Bool) : Known K H (.bl b) := .inr ⟨(fun z e => by cases e), "bool", .base (.bl b), by decide +kernel⟩
theorem known_tup {K : PySem.W.Frag} {H : Hp} {a : Addr} {xs : List V} (h : H a = some (.tup xs)) : Known K H (.ref a) := .inr ⟨(fun z e => by cases e), "tuple", .base (.tup h), by decide +kernel⟩
theorem known_lst {K : PySem.W.Frag} {H : Hp} {a : Addr} {xs : List V} (h : H a = some (.lst xs)) : Known K H (.ref a) := .inr ⟨(fun z e => by cases e), "list", .base (.lst h), by decide +kernel⟩
theorem known_dct {K : PySem.W.Frag} {H : Hp} {a : Addr} {xs : List (Key × V)} (h : H a = some (.dK xs)) : Known K H (.ref a) := .inr ⟨(fun z e => by cases e), "dict", .base (.dK h), by decide +kernel⟩
theorem item_str {K : PySem.W.Frag} {H : Hp} {z : Str} (h : z.length ≤ 1000) (o : PyData.strOk z = true) : Item K H (.str z) := ⟨known_str h o, .str z, .str z, (fine_str o).mono (by decide)⟩
theorem item_non {K : PySem.W.Frag} {H : Hp} : Item K H .non := ⟨known_non, .none, .non, fine_non.mono (by decide)⟩
/-- a text that is short, its signs signs -/
def Word (z : Str) : Prop := z.length ≤ 1000 ∧ PyData.strOk z = true
theorem Word.item {K : PySem.W.Frag} {H : Hp} {z : Str} (h : Word z) : Item K H (.str z) := item_str h.1 h.2
theorem strOk_append {x y : Str} (h : PyData.strOk x = true) (k : PyData.strOk y = true) : PyData.strOk (x ++ y) = true := by
  unfold PyData.strOk at *
  rw [Array.all_eq_true_iff_forall_mem] at *
  intro c hc
  have hc2 : c ∈ x.cps ++ y.cps := hc
  rcases Array.mem_append.mp hc2 with z | z
  · exact h c z
  · exact k c z
theorem strOk_cut {x : Str} (h : PyData.strOk x = true) (lo hi : Option Int) : PyData.strOk (cutS x lo hi) = true := by
  unfold PyData.strOk at *
  rw [Array.all_eq_true_iff_forall_mem] at *
  intro c hc
  have hc2 : c ∈ ((x.cps.toList.drop (HT.sIx x.length 0 lo)).take (HT.sIx x.length x.length hi - HT.sIx x.length 0 lo)) := by
    have : c ∈ (cutS x lo hi).cps.toList := by simpa using hc
    simpa [cutS] using this
  have h3 : c ∈ x.cps.toList := List.mem_of_mem_drop (List.mem_of_mem_take hc2)
  exact h c (by simpa using h3)
/-- repr(b), b a bool -/
theorem cr_reprB {X : Cx} : CallR X (.builtin "repr") (fun xs H Q => ∃ b : Bool, xs = [.bl b] ∧ Q (.str (if b then "True" else "False")) H) := by
  intro pins s σ H xs us Q I r h
  obtain ⟨b, rfl, q⟩ := h
  obtain ⟨u, rfl, ru⟩ := vals1 r
  cases (show u = Value.bool b from ru)
  refine PySem.P.repr_of_bool ⟨.str _, H, I.tok _, ⟨_, rfl⟩, ?_⟩
  exact q
/-- a comprehension over a text, its elements read off the signs -/
theorem lc_str {x : Str} {g : TG} {tt : TT} {te : TE} {vs : List Nat} {σ : St} {H1 : Hp} {D : Addr} {Qd : Hp → Prop} (Pv : Nat → Hp → Prop) (h0 : Pv 0 (upd H1 D (.lst [])))
    (hs : ∀ i c H, x.cps.toList[i]? = some c → Pv i H → g (.str ⟨#[c]⟩) (wipe σ vs) H fun σ2 H2 => wipe σ2 vs = wipe σ vs ∧ tt σ2 H2 fun b H3 =>
      if b = true then te σ2 H3 fun y H4 => ∃ acc, H4 D = some (.lst acc) ∧ acc.length < sizeLine ∧ Pv (i + 1) (upd H4 D (.lst (acc ++ [y]))) else Pv (i + 1) H3) (hd : ∀ H, Pv x.cps.toList.length H → Qd H) :
    ∃ W : Nat → Nat → Hp → Prop, (∃ m, W 0 m (upd H1 D (.lst []))) ∧ ∀ i m H, W i m H →
      ((Its x).stop i H ∧ Qd H) ∨ ((Its x).go i H ∧ ∃ Nx : Hp → Prop, (∀ H', Nx H' → ∃ m', m' < m ∧ W (i + 1) m' H') ∧ ∀ y H', (Its x).yld i H y H' → g y (wipe σ vs) H' fun σ2 H2 => wipe σ2 vs = wipe σ vs ∧ tt σ2 H2 fun b H3 =>
        if b = true then te σ2 H3 fun y H4 => ∃ acc, H4 D = some (.lst acc) ∧ acc.length < sizeLine ∧ Nx (upd H4 D (.lst (acc ++ [y]))) else Nx H3) := by
  have sz : x.cps.toList.length = x.cps.size := Array.length_toList
  refine ⟨fun i m H => m + i = x.cps.size ∧ Pv i H, ⟨x.cps.size, by omega, h0⟩, fun i m H ⟨em, p⟩ => ?_⟩
  by_cases hlt : i < x.cps.size
  · refine .inr ⟨hlt, Pv (i + 1), fun H' p' => ⟨m - 1, by omega, by omega, p'⟩, fun y H' hy => ?_⟩
    obtain ⟨rfl, c, hc, rfl⟩ := hy
    exact hs i c _ (by rw [Array.getElem?_toList]; exact hc) p
  · have e : i = x.cps.toList.length := by omega
    subst e
    exact .inl ⟨by show x.cps.size ≤ _; omega, hd H p⟩
theorem all_filter {α : Type} (f : α → Bool) : ∀ xs : List α, (xs.filter fun x => !f x).isEmpty = xs.all f
  | [] => rfl
  | x :: xs => by
    rw [List.filter_cons, List.all_cons, ← all_filter f xs]
    cases f x <;> rfl
theorem dps {K : PySem.W.Frag} {H : Hp} : ∀ {xs : List V}, (∀ x ∈ xs, ∃ d, Dp K H x d ∧ Fine 8 d) → ∃ ds, DpAll K H xs ds ∧ (∀ d ∈ ds, Fine 8 d) ∧ ds.isEmpty = xs.isEmpty
  | [], _ => ⟨[], .nil, (fun _ h => by cases h), rfl⟩
  | x :: xs, h => by
    obtain ⟨d, h1, h2⟩ := h x (List.mem_cons_self ..)
    obtain ⟨ds, h3, h4, _⟩ := dps (xs := xs) fun y hy => h y (List.mem_cons_of_mem _ hy)
    exact ⟨d :: ds, .cons h1 h3, fun e he => by
      rcases List.mem_cons.mp he with rfl | he
      · exact h2
      · exact h4 e he, rfl⟩
/-- is_name's promise -/
def spName (K : PySem.W.Frag) : Sp := fun vs H Q _ => ∃ x, vs = [x] ∧ Known K H x ∧ ∀ H', Same H H' → Q (.bl (nameV x)) H'
def spOf (K : PySem.W.Frag) (f : Hp → V → Bool) : Sp := fun vs H Q _ => ∃ x, vs = [x] ∧ Thing K H x ∧ ∀ H', Same H H' → Q (.bl (f H x)) H'
/-- what is asked of the module's names -/
structure NamesTxt (mg : Str → Option Value) : Prop where
  len : mg "len" = none
  isi : mg "isinstance" = none
  str : mg "str" = none
  tup : mg "tuple" = none
  all : mg "all" = none
  set : mg "set" = none
end Nb

set_option Elab.async false
set_option maxRecDepth 100000
set_option maxHeartbeats 4000000
/-! enumerate(t), t a tuple. -/
namespace Nb
open PySem PySem.Spec PyProof.Rows L2
/-- the two cells of an enumerate over what begins -/
theorem enumerates {v : Value} {o : Obj} {G : Heap → Prop} (B : Begins v o G) :
    Meets (Builtin.«enumerate.__new__» ⟨[.type "enumerate", v], []⟩) (fun _ R s => G s.heap ∧
      R (.ok (.ret (.ref (s.heap.push o).objs.size))) { s with heap := (s.heap.push o).push { cls := .type "enumerate", data := .fields #[.none, .bool false, .ref s.heap.objs.size, rawInt 0, .none, .none] } }) :=
  .of_wp fun prog w A R s h => by
    obtain ⟨hp, g, d, tk, os⟩ := s
    obtain ⟨here, h⟩ := h
    have hsub := sub_enumerate
    have begin_ : ∀ {A' : Around} {E : Value → Shared → Prop} {Q : Value → Shared → Prop}, Q (.ref hp.objs.size) ⟨hp.push o, g, d, tk, os⟩ → wpAny (model prog w) A' (pyIter v) Q E ⟨hp, g, d, tk, os⟩ :=
      fun q => B.iter prog w _ _ ⟨hp, g, d, tk, os⟩ _ here q
    wp_walk using begin_
    refine wpAny_stack_any fun st => wpAny_pure ?_
    split
    case h_1 c _ _ _ _ _ =>
      cases (c == Value.type "enumerate") <;> (wp_walk using begin_; exact ⟨_, rfl, h⟩)
    case h_2 =>
      wp_walk using begin_
      exact ⟨_, rfl, h⟩
theorem enumerate_made {prog : Program} {w : World} {A : Around} {E : Value → Shared → Prop} {s : Shared} {v : Value} {o : Obj} {G : Heap → Prop} {Q : Value → Shared → Prop} (B : Begins v o G) (here : G s.heap)
    (h : ∀ h', IsEnum h' (s.heap.objs.size + 1) s.heap.objs.size 0 .none → h'.get? s.heap.objs.size = some o → (∀ b u, s.heap.get? b = some u → h'.get? b = some u) → Q (.ref (s.heap.objs.size + 1)) { s with heap := h' }) :
    wpAny (model prog w) A (call (.type "enumerate") [v]) Q E s := by
  refine callType_new F.called_enumerate (by decide) (F.typeCall_enumerate_1 _) (F.newCall_enumerate_1 _) (fun obj => F.args_object_init_2 obj _) F.entry_enumerate_new (enumerates B) ⟨here, ?_⟩
  have two : (s.heap.push o).objs.size = s.heap.objs.size + 1 := Heap.size_push ..
  show _ ∧ _
  rw [two]
  have made := Heap.get?_push_size (s.heap.push o) (o := { cls := .type "enumerate", data := .fields #[.none, .bool false, .ref s.heap.objs.size, rawInt 0, .none, .none] }) rfl
  rw [two] at made
  exact ⟨⟨_, made, rfl⟩, h _ made (Heap.get?_push_of_some _ (Heap.get?_push_size _ B.free)) fun b u x => Heap.get?_push_of_some _ (Heap.get?_push_of_some _ x)⟩
/-- the tuple at a, each item in a new pair with its index -/
def Itet (K : PySem.W.Frag) (a : Addr) : It :=
  ⟨fun i H => ∃ (xs : List V) (x : V), SqT K H a xs ∧ xs[i]? = some x, fun i H v H' => ∃ T x, v = .ref T ∧ H T = none ∧ H' = upd H T (.tup [.int (i : Nat), x]) ∧ ∀ xs, SqT K H a xs → xs[i]? = some x, fun i H => ∃ xs : List V, SqT K H a xs ∧ xs.length = i⟩
theorem turn_enumT {P : Program} {w : World} {K : PySem.W.Frag} {elts : List Expr} {kk : Nat} {tpos : Pos} (a e it : Addr) :
    Turn P w K (.Tuple elts kk tpos) (Itet K a) [e, it] e (fun i h => (∃ old, IsEnum h e it ((i : Nat) : Int) old) ∧ h.IsTupleIter it a i ∧ e ≠ it) where
  mem := by simp
  obj := fun i h st b hb => by
    obtain ⟨⟨old, he⟩, ⟨o, ho, _, hd⟩, _⟩ := st
    have z : b = e ∨ b = it := by simpa using hb
    rcases z with rfl | rfl
    · exact ⟨_, he, fun v q => nomatch q⟩
    · exact ⟨o, ho, fun v q => by rw [hd] at q; cases q⟩
  keep := fun i h h' ⟨⟨old, he⟩, hi, hne⟩ k => ⟨⟨old, k e (by simp) _ he⟩, hi.at fun o q => k it (by simp) o q, hne⟩
  item := by
    intro X hP hw hK hc i pins s σ H E I hf st hg
    subst hP hw hK
    obtain ⟨⟨old, he⟩, hit, hne⟩ := st
    obtain ⟨xs, x, hq, hx⟩ := hg
    obtain ⟨its, rv, tp, hz⟩ := I.tuple hq
    obtain ⟨u, hu, ru⟩ := rv.get hx
    have hel : e < s.heap.objs.size := Heap.lt_size he
    have hil : it < s.heap.objs.size := by
      obtain ⟨_, q, _⟩ := hit
      exact Heap.lt_size q
    have nta : a ≠ it := fun z => by
      obtain ⟨o1, e1, c1, _⟩ := hit
      obtain ⟨o2, e2, c2, _⟩ := tp
      rw [z, e1] at e2
      cases e2
      rw [c1] at c2
      injection c2 with c3
      exact absurd c3 (by decide)
    have nea : e ≠ a := fun z => by
      obtain ⟨o2, e2, c2, _⟩ := tp
      have e3 : s.heap.get? a = _ := z ▸ he
      rw [e3] at e2
      cases e2
      injection c2 with c3
      exact absurd c3 (by decide)
    have D := Draws.tuple (prog := X.prog) (w := X.w) (A := X.A.in1) (show X.A.in1.handled = none from I.ok.hd hc) it a nta its.toArray
    have sz : i < its.toArray.size := by
      have := (List.getElem?_eq_some_iff.mp hu).1
      simpa using this
    refine wpAny_pyNext_enum_itemD D he ⟨hit, tp⟩ sz hne (by simp [hne, nea]) fun y h' tk py ho st' hT hsz hk => ?_
    have ey : y = u := by
      have p2 : its.toArray[i]? = some u := by simpa using hu
      exact Option.some.inj (py.symm.trans p2)
    subst ey
    refine ⟨_, rfl, wpAny_letOwnedTupleGo_enum (s := { s with heap := h', toks := tk + 1 }) ho fun h'' he' sb => ?_⟩
    have hT2 : h''.get? s.heap.objs.size = some { cls := .type "tuple", data := .seq #[.int i tk, y] } := (sb.2 _ (Nat.ne_of_gt hel)).trans hT
    have new : ObjOk X.prog X.w (upd H s.heap.objs.size (.tup [.int (i : Nat), x])) h'' s.heap.objs.size (.tup [.int (i : Nat), x]) :=
      ⟨by show 2 ≤ sizeLine; decide, [.int i tk, y], .cons ⟨_, rfl⟩ (.cons ru .nil), ⟨_, hT2, rfl, _, rfl⟩⟩
    have I1 : Inv X pins σ (upd H s.heap.objs.size (.tup [.int (i : Nat), x])) { s with heap := h'', toks := tk + 1 } :=
      I.turnedNew (ch := [e, it]) (fun b ob hb q => (sb.2 b (fun z => hb (by simp [z]))).trans (hk b ob (fun z => hb (by simp [z])) (fun z => hb (by simp [z])) q)) hf (Nat.le_refl _) new
    refine ⟨.ref s.heap.objs.size, _, I1, rfl, ⟨_, x, rfl, I.hok.fresh (Nat.le_refl _), rfl, fun ys hy => by rw [I.tuple_inj hy hq]; exact hx⟩, ⟨⟨y, ?_⟩, st'.1.at fun o q => (sb.2 it (Ne.symm hne)).trans q, hne⟩, fun b hb => ?_⟩
    · have e1 : ((i + 1 : Nat) : Int) = (i : Int) + 1 := by omega
      rw [e1]
      exact he'
    · have hb' : b < s.heap.objs.size := by
        have z : b = e ∨ b = it := by simpa using hb
        rcases z with rfl | rfl
        · exact hel
        · exact hil
      rw [upd_ne (Nat.ne_of_lt hb')]
      exact (hf b hb).1
  done := by
    intro X hP hw hK hc i pins s σ H E I hf st hg
    subst hP hw hK
    obtain ⟨⟨old, he⟩, hit, hne⟩ := st
    obtain ⟨xs, hq, hx⟩ := hg
    obtain ⟨its, rv, tp, hz⟩ := I.tuple hq
    obtain ⟨f0, f1, f2, f3, f4, f5⟩ := hf it (by simp)
    have nta : a ≠ it := fun z => by
      obtain ⟨o1, e1, c1, _⟩ := hit
      obtain ⟨o2, e2, c2, _⟩ := tp
      rw [z, e1] at e2
      cases e2
      rw [c1] at c2
      injection c2 with c3
      exact absurd c3 (by decide)
    have sz : its.toArray.size = i := by
      have hl := rv.length
      rw [List.size_toArray, ← hl, hx]
    have D := Draws.tuple (prog := X.prog) (w := X.w) (A := X.A.in1) (show X.A.in1.handled = none from I.ok.hd hc) it a nta its.toArray
    refine wpAny_pyNext_enum_endD D he ⟨by rw [sz]; exact hit, tp⟩ fun h' eb => ⟨rfl, I.turned (t' := s.toks) (fun b o hb q => eb b o hb q) f0 f1 f3 f4 f5⟩
  self := fun A i s Q E st h => let ⟨⟨_, he⟩, _⟩ := st; wpAny_pyIter_enum he h
def iEnumT (K : PySem.W.Frag) (ta : TA) : TI := fun σ H R => ta σ H fun vs H1 => ∃ a xs, vs = [.ref a] ∧ SqT K H1 a xs ∧ R (Itet K a) H1
theorem pi_enumT {X : Cx} {e : Expr} {ta : TA} {p pos tpos : Pos} {elts : List Expr} {kk : Nat} (hg : Gl X "enumerate") (hm : X.mg "enumerate" = none) (ha : PA X [e] ta) (hs : starEach [e] X.env = [(false, eval e X.env)] := by rfl) :
    PI X (.Tuple elts kk tpos) (.Call (.Name "enumerate" p) [e] [] pos) (iEnumT X.K ta) := by
  refine ⟨fun pins s σ H R I h => Call_ (ld_blt I hg hm boot_enumerate (callWith_type1 (thn (ha.run pos pins s σ H _ I h) fun us s1 ⟨vs, H1, I1, r1, q1⟩ => ?_) hs rfl))⟩
  obtain ⟨a, xs, rfl, hq, q⟩ := q1
  cases r1 with
  | cons r rr =>
    cases rr
    cases r
    obtain ⟨its, rv, tp, hz⟩ := I1.tuple hq
    refine enumerate_made (begins_tuple a its.toArray) tp fun h' he hit hk => wpAny_pyIter_enum he ?_
    refine ⟨s1.heap.objs.size + 1, [s1.heap.objs.size + 1, s1.heap.objs.size], _, _, H1, rfl, I1.kept (t' := s1.toks) hk, turn_enumT a (s1.heap.objs.size + 1) s1.heap.objs.size, ⟨⟨.none, he⟩, ⟨_, hit, rfl, rfl⟩, Nat.succ_ne_self _⟩, fun b hb => ?_, q⟩
    have hle : s1.heap.objs.size ≤ b := by
      have z : b = s1.heap.objs.size + 1 ∨ b = s1.heap.objs.size := by simpa using hb
      rcases z with rfl | rfl
      · exact Nat.le_succ _
      · exact Nat.le_refl _
    have I2 : Inv X pins σ H1 { s1 with heap := h' } := I1.kept (t' := s1.toks) hk
    have old := I1.fpOk hle (I1.hok.fresh hle)
    exact old
theorem walk_enumT {K : PySem.W.Frag} {a : Addr} {xs : List V} : Walk (Itet K a) xs.length (fun H => SqT K H a xs) (YPair (fun i => some (.int (i : Nat))) (fun i => xs[i]?)) :=
  ⟨fun i H hi h => ⟨xs, xs[i], h, List.getElem?_eq_getElem hi⟩, fun H h => ⟨xs, h, rfl⟩, fun i H v H' hi h hy => by
    obtain ⟨T, x, e1, e2, e3, e4⟩ := hy
    exact ⟨T, .int (i : Nat), x, e1, e2, e3, rfl, e4 xs h⟩⟩
end Nb

set_option Elab.async false
set_option maxRecDepth 100000
set_option maxHeartbeats 4000000
/-! Data that stands in the heap, to a depth; rows of names. -/
namespace Nb
open PySem L2
mutual
/-- the value is this data: texts short, lists and tuples short, not deeper than n, no dict -/
inductive Td (H : Hp) : Nat → V → PyData → Prop
  | non {n} : Td H n .non .none
  | bl {n} (b : Bool) : Td H n (.bl b) (.bool b)
  | int {n} (i : Int) : Td H n (.int i) (.int i)
  | str {n} {z : Str} (h : Word z) : Td H n (.str z) (.str z)
  | lst {n} {a : Addr} {xs : List V} {ds : List PyData} (e : H a = some (.lst xs)) (l : xs.length ≤ 1000) (h : Tds H n xs ds) : Td H (n + 1) (.ref a) (.list ds)
  | tup {n} {a : Addr} {xs : List V} {ds : List PyData} (e : H a = some (.tup xs)) (l : xs.length ≤ 1000) (h : Tds H n xs ds) : Td H (n + 1) (.ref a) (.tuple ds)
inductive Tds (H : Hp) : Nat → List V → List PyData → Prop
  | nil {n} : Tds H n [] []
  | cons {n} {x : V} {d : PyData} {xs : List V} {ds : List PyData} (h : Td H n x d) (t : Tds H n xs ds) : Tds H n (x :: xs) (d :: ds)
end
section
variable {H H' : Hp}
mutual
theorem td_same (s : Same H H') : ∀ {n : Nat} {x : V} {d : PyData}, Td H n x d → Td H' n x d
  | _, _, _, .non => .non
  | _, _, _, .bl b => .bl b
  | _, _, _, .int i => .int i
  | _, _, _, .str h => .str h
  | _, _, _, .lst e l h => .lst (s _ _ e) l (tds_same s h)
  | _, _, _, .tup e l h => .tup (s _ _ e) l (tds_same s h)
theorem tds_same (s : Same H H') : ∀ {n : Nat} {xs : List V} {ds : List PyData}, Tds H n xs ds → Tds H' n xs ds
  | _, _, _, .nil => .nil
  | _, _, _, .cons h t => .cons (td_same s h) (tds_same s t)
end
mutual
theorem td_up : ∀ {n : Nat} {x : V} {d : PyData}, Td H n x d → Td H (n + 1) x d
  | _, _, _, .non => .non
  | _, _, _, .bl b => .bl b
  | _, _, _, .int i => .int i
  | _, _, _, .str h => .str h
  | _, _, _, .lst e l h => .lst e l (tds_up h)
  | _, _, _, .tup e l h => .tup e l (tds_up h)
theorem tds_up : ∀ {n : Nat} {xs : List V} {ds : List PyData}, Tds H n xs ds → Tds H (n + 1) xs ds
  | _, _, _, .nil => .nil
  | _, _, _, .cons h t => .cons (td_up h) (tds_up t)
end
mutual
theorem td_dp {K : PySem.W.Frag} : ∀ {n : Nat} {x : V} {d : PyData}, Td H n x d → Dp K H x d ∧ d.canLay0 = true ∧ d.depth ≤ n
  | _, _, _, .non => ⟨.non, by simp [PyData.canLay0], by simp [PyData.depth]⟩
  | _, _, _, .bl b => ⟨.bl b, by simp [PyData.canLay0], by simp [PyData.depth]⟩
  | _, _, _, .int i => ⟨.int i, by simp [PyData.canLay0], by simp [PyData.depth]⟩
  | _, _, _, .str h => ⟨.str _, by simpa [PyData.canLay0] using h.2, by simp [PyData.depth]⟩
  | _, _, _, .lst e l h => by
    have k := tds_dp (K := K) h
    exact ⟨.lst (SqL.of e) k.1, by simpa [PyData.canLay0] using k.2.1, by simpa [PyData.depth] using k.2.2⟩
  | _, _, _, .tup e l h => by
    have k := tds_dp (K := K) h
    exact ⟨.tup (SqT.of e) k.1, by simpa [PyData.canLay0] using k.2.1, by simpa [PyData.depth] using k.2.2⟩
theorem tds_dp {K : PySem.W.Frag} : ∀ {n : Nat} {xs : List V} {ds : List PyData}, Tds H n xs ds → DpAll K H xs ds ∧ PyData.canLayAll0 ds = true ∧ PyData.depthAll ds ≤ n
  | _, _, _, .nil => ⟨.nil, by simp [PyData.canLayAll0], by simp [PyData.depthAll]⟩
  | _, _, _, .cons h t => by
    have k := td_dp (K := K) h
    have j := tds_dp (K := K) t
    refine ⟨.cons k.1 j.1, by simp [PyData.canLayAll0, k.2.1, j.2.1], ?_⟩
    simp only [PyData.depthAll]
    exact Nat.max_le.mpr ⟨k.2.2, j.2.2⟩
end
theorem td_shaped {K : PySem.W.Frag} {n : Nat} {x : V} {d : PyData} (h : Td H n x d) (l : n ≤ 64) : SeqAt.shaped d = true := by
  have k := td_dp (K := K) h
  exact Fine.shaped (n := n) ⟨k.2.1, k.2.2⟩ l
theorem tds_len : ∀ {n : Nat} {xs : List V} {ds : List PyData}, Tds H n xs ds → xs.length = ds.length
  | _, _, _, .nil => rfl
  | _, _, _, .cons _ t => congrArg (· + 1) (tds_len t)
theorem tds_get : ∀ {n : Nat} {xs : List V} {ds : List PyData} {i : Nat} {x : V}, Tds H n xs ds → xs[i]? = some x → ∃ d, ds[i]? = some d ∧ Td H n x d
  | _, _, _, _, _, .nil, e => by simp at e
  | _, _, _, 0, _, .cons h t, e => by
    simp at e
    subst e
    exact ⟨_, rfl, h⟩
  | _, _, _, i + 1, _, .cons h t, e => by
    obtain ⟨d, e1, e2⟩ := tds_get (i := i) t (by simpa using e)
    exact ⟨d, by simpa using e1, e2⟩
theorem tds_app : ∀ {n : Nat} {xs ys : List V} {ds es : List PyData}, Tds H n xs ds → Tds H n ys es → Tds H n (xs ++ ys) (ds ++ es)
  | _, _, _, _, _, .nil, k => k
  | _, _, _, _, _, .cons h t, k => .cons h (tds_app t k)
theorem tds_take : ∀ {n : Nat} {xs : List V} {ds : List PyData} (i : Nat), Tds H n xs ds → Tds H n (xs.take i) (ds.take i)
  | _, _, _, 0, _ => .nil
  | _, _, _, i + 1, .nil => .nil
  | _, _, _, i + 1, .cons h t => .cons h (tds_take i t)
theorem tds_drop : ∀ {n : Nat} {xs : List V} {ds : List PyData} (i : Nat), Tds H n xs ds → Tds H n (xs.drop i) (ds.drop i)
  | _, _, _, 0, t => t
  | _, _, _, i + 1, .nil => .nil
  | _, _, _, i + 1, .cons _ t => tds_drop i t
theorem tds_rev : ∀ {n : Nat} {xs : List V} {ds : List PyData}, Tds H n xs ds → Tds H n xs.reverse ds.reverse
  | _, _, _, .nil => .nil
  | _, _, _, .cons h t => by
    rw [List.reverse_cons, List.reverse_cons]
    exact tds_app (tds_rev t) (.cons h .nil)
/-- some data for each -/
theorem tds_ex : ∀ {n : Nat} {xs : List V}, (∀ x ∈ xs, ∃ d, Td H n x d) → ∃ ds, Tds H n xs ds
  | _, [], _ => ⟨[], .nil⟩
  | n, x :: xs, h => by
    obtain ⟨d, k⟩ := h x (List.mem_cons_self ..)
    obtain ⟨ds, j⟩ := tds_ex (n := n) (xs := xs) fun y hy => h y (List.mem_cons_of_mem _ hy)
    exact ⟨d :: ds, .cons k j⟩
theorem tds_mem : ∀ {n : Nat} {xs : List V} {ds : List PyData} {x : V}, Tds H n xs ds → x ∈ xs → ∃ d, d ∈ ds ∧ Td H n x d
  | _, _, _, _, .nil, e => by cases e
  | _, _, _, _, .cons h t, e => by
    rcases List.mem_cons.mp e with rfl | e
    · exact ⟨_, List.mem_cons_self .., h⟩
    · obtain ⟨d, e1, e2⟩ := tds_mem t e
      exact ⟨d, List.mem_cons_of_mem _ e1, e2⟩
theorem td_ty {K : PySem.W.Frag} : ∀ {n : Nat} {x : V} {d : PyData}, Td H n x d → TyX K H x (.type (match d with | .none => "NoneType" | .bool _ => "bool" | .int _ => "int" | .str _ => "str" | .list _ => "list" | .tuple _ => "tuple" | .dict _ => "dict"))
  | _, _, _, .non => .base .non
  | _, _, _, .bl b => .base (.bl b)
  | _, _, _, .int i => .base (.int i)
  | _, _, _, .str (z := z) h => .base (.str z)
  | _, _, _, .lst e l h => .base (.lst e)
  | _, _, _, .tup e l h => .base (.tup e)
theorem td_known {K : PySem.W.Frag} : ∀ {n : Nat} {x : V} {d : PyData}, Td H n x d → Known K H x
  | _, _, _, .non => known_non
  | _, _, _, .bl b => known_bl b
  | _, _, _, .int i => known_int i
  | _, _, _, .str h => known_str h.1 h.2
  | _, _, _, .lst e l h => known_lst e
  | _, _, _, .tup e l h => known_tup e
end
/-- in, a tuple of data -/
def rInT (K : PySem.W.Frag) : R2 := fun x y H Q => ∃ d ds, Dp K H x d ∧ Dp K H y (.tuple ds) ∧ SeqAt.shaped d = true ∧ SeqAt.shaped (.tuple ds) = true ∧ Q (.bl (ds.any fun z => PyData.eqv z d)) H
theorem op_inT {X : Cx} (hu : X.A.units + 65 < cLine) : OpR X (compareOp .In) (rInT X.K) := by
  intro pins s σ H x y v u Q I rx ry h
  obtain ⟨d, ds, hd, he, sd, se, q⟩ := h
  obtain ⟨as, r1⟩ := Dp.reads I d x v hd rx
  obtain ⟨bs, r2⟩ := Dp.reads I (.tuple ds) y u he ry
  have l1 := SeqAt.canLay_of_shaped se
  have d1 := SeqAt.depth_of_shaped sd
  refine SeqAt.in_tuple_reads r2 r1 (by simpa [PyData.canLay0] using l1) (SeqAt.canLay_of_shaped sd) ?_ ⟨.bl _, H, I, rfl, q⟩
  have := Nat.min_le_right (PyData.depthAll ds) d.depth
  omega
/-! ### rows of names -/
def GoodRow (row : List Str) : Prop := row.Nodup ∧ (∀ z ∈ row, isNm z = true ∧ Word z) ∧ row.length ≤ 8
def RowsAt (H : Hp) (r : Addr) (rows : List (List Str)) : Prop := ∃ as : List Addr, H r = some (.tup (as.map V.ref)) ∧ as.length = rows.length ∧ ∀ (k : Nat) (a : Addr) (row : List Str), as[k]? = some a → rows[k]? = some row → Rd H a (.tup (row.map V.str))
theorem rows_same {H H' : Hp} {r : Addr} {rows : List (List Str)} (s : Same H H') (h : RowsAt H r rows) : RowsAt H' r rows :=
  let ⟨as, h1, h2, h3⟩ := h; ⟨as, s _ _ h1, h2, fun k a row e1 e2 => rd_same s (h3 k a row e1 e2)⟩
theorem strsOf_map : ∀ l : List Str, strsOf (l.map V.str) = l
  | [] => rfl
  | x :: l => by
    show x :: strsOf (l.map V.str) = x :: l
    rw [strsOf_map l]
theorem seen_nodup : ∀ (l acc : List Str), (acc ++ l).Nodup → l.foldl grow acc = acc ++ l
  | [], acc, _ => by simp
  | x :: l, acc, h => by
    have hx : acc.any (· == x) = false := by
      cases e : acc.any (· == x) with
      | false => rfl
      | true =>
        obtain ⟨y, hy, ey⟩ := List.any_eq_true.mp e
        have ey2 : y = x := eq_of_beq ey
        subst ey2
        have h2 := (List.nodup_append.mp h).2.2 y hy y (List.mem_cons_self ..)
        exact absurd rfl h2
    have g : grow acc x = acc ++ [x] := by
      unfold grow
      rw [hx]
      rfl
    show l.foldl grow (grow acc x) = acc ++ x :: l
    rw [g, seen_nodup l (acc ++ [x]) (by simpa using h)]
    simp
theorem good_diff {row : List Str} (h : GoodRow row) : diffV (row.map V.str) = true := by
  unfold diffV
  have h1 : (row.map V.str).all nameV = true := by
    rw [List.all_map, List.all_eq_true]
    intro z hz
    exact (h.2.1 z hz).1
  have h2 : seen row = row := by
    have := seen_nodup row [] (by simpa using h.1)
    simpa [seen] using this
  rw [h1, strsOf_map, h2]
  simp
theorem good_thing {K : PySem.W.Frag} {H : Hp} {a : Addr} {row : List Str} (h : GoodRow row) (e : Rd H a (.tup (row.map V.str))) : Thing K H (.ref a) :=
  .inl ⟨a, _, rfl, e, by rw [List.length_map]; exact Nat.le_trans h.2.2 (by decide), fun y hy => by
    obtain ⟨z, hz, rfl⟩ := List.mem_map.mp hy
    exact (h.2.1 z hz).2.item⟩
/-! ### clashes, as data -/
/-- the place of a name in a row -/
def place (row : List Str) (d : PyData) : Option Nat := match d with
  | .str x => row.findIdx? (· == x)
  | _ => none
def nmD : PyData → Bool
  | .str x => isNm x
  | _ => false
def ixD (n : Nat) : PyData → Bool
  | .int i => decide (0 ≤ i) && decide (i < n)
  | _ => false
def before (row : List Str) (a b : PyData) : Bool := match place row a, place row b with
  | some i, some j => decide (i < j)
  | _, _ => false
theorem before_str (row : List Str) (x y : Str) : before row (.str x) (.str y) = match row.findIdx? (· == x), row.findIdx? (· == y) with
  | some i, some j => decide (i < j)
  | _, _ => false := rfl
def stepD (rows : List (List Str)) : PyData → Bool
  | .tuple [a, b, .int i] => ixD rows.length (.int i) && before (rows.getD i.toNat []) a b
  | _ => false
def sndD : PyData → PyData
  | .tuple [_, b, _] => b
  | _ => .none
def fstD : PyData → PyData
  | .tuple [a, _, _] => a
  | _ => .none
def strD : PyData → Str
  | .str x => x
  | _ => Str.empty
/-- each step begins where the one ahead of it ends, the first one where the last one ends -/
def ringP (ds : List PyData) (j : Nat) : Bool := decide (strD (sndD (ds.getD (if j = 0 then ds.length - 1 else j - 1) .none)) = strD (fstD (ds.getD j .none)))
def ringD (ds : List PyData) : Bool := (List.range ds.length).all (ringP ds)
def clashD (rows : List (List Str)) : PyData → Bool
  | .tuple ds => decide (2 ≤ ds.length) && ds.all (stepD rows) && ringD ds
  | _ => false
theorem clash_tup (rows : List (List Str)) (ds : List PyData) : clashD rows (.tuple ds) = (decide (2 ≤ ds.length) && ds.all (stepD rows) && ringD ds) := rfl
/-- a step that fits is three values -/
theorem step_form {rows : List (List Str)} {H : Hp} {n : Nat} {v : V} {d : PyData} (h : stepD rows d = true) (t : Td H n v d) : ∃ b x y k, v = .ref b ∧ d = .tuple [.str x, .str y, .int k] ∧ H b = some (.tup [.str x, .str y, .int k]) := by
  cases t with
  | tup e l ts =>
    rename_i m a xs ds
    match ds, h with
    | [d1, d2, .int k], h =>
      cases ts with
      | cons k1 ts => cases ts with
        | cons k2 ts => cases ts with
          | cons k3 ts =>
            cases ts
            have hb : before (rows.getD k.toNat []) d1 d2 = true := (Bool.and_eq_true_iff.mp h).2
            cases k3
            cases k1 with
            | str w1 => cases k2 with
              | str w2 => exact ⟨_, _, _, _, rfl, rfl, e⟩
              | _ => simp [before, place] at hb
            | _ => simp [before, place] at hb
  | _ => cases h
/-- a dict comprehension over what walks -/
theorem dc_it {J : It} {n : Nat} {G : Hp → Prop} {Y : Nat → Hp → V → Hp → Prop} (w : Walk J n G Y) {g : TG} {tt : TT} {tk tv : TE} {vs : List Nat} {σ : St} {H1 : Hp} {D : Addr} {Qd : Hp → Prop} (Pv : Nat → Hp → Prop) (h0 : Pv 0 (upd H1 D (.dK []))) (hG : ∀ i H, i ≤ n → Pv i H → G H)
    (hs : ∀ i x H H', i < n → Pv i H → Y i H x H' → g x (wipe σ vs) H' fun σ2 H2 => wipe σ2 vs = wipe σ vs ∧ tt σ2 H2 fun b H3 =>
      if b = true then tk σ2 H3 fun y H4 => tv σ2 H4 fun z H5 => ∃ kvs k, y = kV k ∧ H5 D = some (.dK kvs) ∧ kvs.length < sizeLine ∧ Pv (i + 1) (upd H5 D (.dK (putK kvs k z))) else Pv (i + 1) H3) (hd : ∀ H, Pv n H → Qd H) :
    ∃ W : Nat → Nat → Hp → Prop, (∃ m, W 0 m (upd H1 D (.dK []))) ∧ ∀ i m H, W i m H →
      (J.stop i H ∧ Qd H) ∨ (J.go i H ∧ ∃ Nx : Hp → Prop, (∀ H', Nx H' → ∃ m', m' < m ∧ W (i + 1) m' H') ∧ ∀ x H', J.yld i H x H' → g x (wipe σ vs) H' fun σ2 H2 => wipe σ2 vs = wipe σ vs ∧ tt σ2 H2 fun b H3 =>
        if b = true then tk σ2 H3 fun y H4 => tv σ2 H4 fun z H5 => ∃ kvs k, y = kV k ∧ H5 D = some (.dK kvs) ∧ kvs.length < sizeLine ∧ Nx (upd H5 D (.dK (putK kvs k z))) else Nx H3) := by
  refine ⟨fun i m H => m + i = n ∧ Pv i H, ⟨n, rfl, h0⟩, fun i m H ⟨em, p⟩ => ?_⟩
  by_cases hlt : i < n
  · exact .inr ⟨w.goes i H hlt (hG i H (Nat.le_of_lt hlt) p), Pv (i + 1), fun H' p' => ⟨m - 1, by omega, by omega, p'⟩, fun x H' y => hs i x H H' hlt p (w.yields i H x H' hlt (hG i H (Nat.le_of_lt hlt) p) y)⟩
  · have e : i = n := by omega
    subst e
    exact .inl ⟨w.stops H (hG _ H (Nat.le_refl _) p), hd H p⟩
end Nb

set_option Elab.async false
set_option maxRecDepth 100000
set_option maxHeartbeats 4000000
namespace Nb
open PySem L2
theorem src_at {H : Hp} {p D : Addr} {o : HO} {b : Nat} (S : Src H p b) (n : p ≠ D) : Src (upd H D o) p b := by
  obtain ⟨c, m, r, e, k⟩ := S
  exact ⟨c, m, r, by rw [upd_ne n]; exact e, k⟩
theorem src_fresh {H : Hp} {p D : Addr} {b : Nat} (S : Src H p b) (h : H D = none) : D ≠ p := fun z => by
  obtain ⟨u, e⟩ := S.some
  rw [← z, h] at e
  cases e
/-- tuple + tuple, whichever of the two is empty -/
theorem cat_tup {K : PySem.W.Frag} {H : Hp} {a b : Addr} {xs ys : List V} {Q : VK} (ha : SqT K H a xs) (hb : H b = some (.tup ys)) (hy : ys ≠ []) (hl : xs.length + ys.length ≤ sizeLine)
    (h : ∀ p H', Same H H' → (∀ c, H c ≠ none → H' c = H c) → H' p = some (.tup (xs ++ ys)) → Q (.ref p) H') : rCatA K (.ref a) (.ref b) H Q := by
  refine ⟨a, b, xs, ys, rfl, rfl, ha, SqT.of hb, hl, fun e => ?_, fun _ e => absurd e hy, fun _ _ p hp => ?_⟩
  · subst e
    exact h b H (Same.refl H) (fun _ _ => rfl) hb
  · exact h p _ (same_new hp) (fun c hc => upd_ne (fun z => hc (z ▸ hp))) upd_same
theorem cut_mem {xs : List V} {lo hi : Option Int} {y : V} (h : y ∈ cutV xs lo hi) : y ∈ xs := List.mem_of_mem_drop (List.mem_of_mem_take h)
theorem map_item {K : PySem.W.Frag} {H : Hp} {ys : List Str} (h : ∀ z ∈ ys, Word z) : ∀ y ∈ ys.map V.str, Item K H y := fun y hy => by
  obtain ⟨z, hz, rfl⟩ := List.mem_map.mp hy
  exact (h z hz).item
/-- the law's promise -/
def spLaw (K : PySem.W.Frag) : Sp := fun vs H Q _ => ∃ (a : Addr) (ns : List Int), vs = [.ref a] ∧ SqL K H a (ns.map V.int) ∧ ns.length ≤ 63 ∧ ∀ H', Q (.bl true) H'
end Nb

set_option Elab.async false
set_option maxRecDepth 100000
set_option maxHeartbeats 4000000
/-! Data in the heap, cut and added; data beside the source of numbers; methods, as data. -/
namespace Nb
open PySem L2
theorem noPart {σ : St} {H : Hp} {Q : Option Int → Hp → Prop} (h : Q none H) : tNoPart σ H Q := h
theorem cut_whole {xs : List V} {lo hi : Option Int} (h : HT.sIx xs.length 0 lo = 0 ∧ HT.sIx xs.length xs.length hi = xs.length) : cutV xs lo hi = xs := by
  unfold cutV
  rw [h.1, h.2]
  simp
theorem cutS_tup {K : PySem.W.Frag} {H : Hp} {a : Addr} {xs : List V} {lo hi : Option Int} {Q : VK} (ha : SqT K H a xs) (h : ∀ p H', Same H H' → SqT K H' p (cutV xs lo hi) → Q (.ref p) H') : rSlA K (.ref a) lo hi H Q :=
  ⟨a, xs, rfl, ha, fun w => h a H (Same.refl H) (by rw [cut_whole w]; exact ha), fun _ p hp => h p _ (same_new hp) (SqT.of upd_same)⟩
theorem cutT_tup {K : PySem.W.Frag} {H : Hp} {a : Addr} {xs : List V} {lo hi : Option Int} {Q : VK} (ha : H a = some (.tup xs)) (h : ∀ p H', Same H H' → H' p = some (.tup (cutV xs lo hi)) → Q (.ref p) H') : rSlA K (.ref a) lo hi H Q :=
  ⟨a, xs, rfl, SqT.of ha, fun w => h a H (Same.refl H) (by rw [cut_whole w]; exact ha), fun _ p hp => h p _ (same_new hp) upd_same⟩
theorem catT_tup {K : PySem.W.Frag} {H : Hp} {a b : Addr} {xs ys : List V} {Q : VK} (ha : H a = some (.tup xs)) (hb : H b = some (.tup ys)) (hl : xs.length + ys.length ≤ 2000) (h : ∀ p H', Same H H' → H' p = some (.tup (xs ++ ys)) → Q (.ref p) H') : rCatA K (.ref a) (.ref b) H Q := by
  refine ⟨a, b, xs, ys, rfl, rfl, SqT.of ha, SqT.of hb, Nat.le_trans hl (by decide), fun e => ?_, fun _ e => ?_, fun _ _ p hp => h p _ (same_new hp) upd_same⟩
  · subst e
    exact h b H (Same.refl H) hb
  · subst e
    exact h a H (Same.refl H) (by rw [List.append_nil]; exact ha)
/-- all steps of the rows, as a new list -/
def Tq (H : Hp) (n : Nat) (v : V) : Prop := ∃ d, Td H n v d
theorem tq_same {H H' : Hp} (s : Same H H') {n : Nat} {v : V} (h : Tq H n v) : Tq H' n v := let ⟨d, k⟩ := h; ⟨d, td_same s k⟩
theorem tq_up {H : Hp} {n : Nat} {v : V} (h : Tq H n v) : Tq H (n + 1) v := let ⟨d, k⟩ := h; ⟨d, td_up k⟩
theorem tq_le {H : Hp} {v : V} {n : Nat} (h : Tq H n v) : ∀ k, Tq H (n + k) v
  | 0 => h
  | k + 1 => tq_up (tq_le h k)
theorem tq_tup {H : Hp} {n : Nat} {a : Addr} {xs : List V} (e : H a = some (.tup xs)) (l : xs.length ≤ 1000) (h : ∀ v ∈ xs, Tq H n v) : Tq H (n + 1) (.ref a) := let ⟨_, k⟩ := tds_ex h; ⟨_, .tup e l k⟩
theorem tq_lst {H : Hp} {n : Nat} {a : Addr} {xs : List V} (e : H a = some (.lst xs)) (l : xs.length ≤ 1000) (h : ∀ v ∈ xs, Tq H n v) : Tq H (n + 1) (.ref a) := let ⟨_, k⟩ := tds_ex h; ⟨_, .lst e l k⟩
theorem cut_sub (xs : List V) (lo hi : Option Int) : (cutV xs lo hi).Sublist xs := by
  unfold cutV
  exact (List.take_sublist _ _).trans (List.drop_sublist _ _)
theorem upd_of {H : Hp} {a : Addr} {o : HO} (h : H a = none) : (upd H a o) a = some o := upd_same
theorem eqv_nilT (ds : List PyData) : PyData.eqv (.tuple ds) (.tuple []) = ds.isEmpty := by
  cases ds <;> simp [PyData.eqv, PyData.eqvAll]
theorem del_tup {H : Hp} {p a : Addr} {b : Nat} {xs : List V} (S : Src H p b) (e : H a = some (.tup xs)) : del H p a = some (.tup xs) := by
  rw [del_ne (src_ne S e (fun xs z => by cases z))]
  exact e
theorem del_lstS {H : Hp} {p a : Addr} {b : Nat} {x : Str} {xs : List V} (S : Src H p b) (e : H a = some (.lst (.str x :: xs))) : del H p a = some (.lst (.str x :: xs)) := by
  have n : a ≠ p := fun z => by
    obtain ⟨c, m, r, e2, _⟩ := S
    rw [z, e2] at e
    cases e
  rw [del_ne n]
  exact e
theorem del_up {H H' : Hp} {p : Addr} (s : Same H H') : Same (del H p) (del H' p) := same_del (del_same.trans s) del_at
section
variable {H : Hp} {n : Nat} {a : Addr} {u v w x : V}
theorem tqS {z : Str} (h : Word z) : Tq H n (.str z) := ⟨_, .str h⟩
theorem tqI (i : Int) : Tq H n (.int i) := ⟨_, .int i⟩
theorem tqN : Tq H n .non := ⟨_, .non⟩
theorem tqB (b : Bool) : Tq H n (.bl b) := ⟨_, .bl b⟩
theorem tq0 (e : H a = some (.tup [])) : Tq H (n + 1) (.ref a) := ⟨_, .tup e (by decide) .nil⟩
theorem tq2 (e : H a = some (.tup [u, v])) (h1 : Tq H n u) (h2 : Tq H n v) : Tq H (n + 1) (.ref a) := let ⟨_, k1⟩ := h1; let ⟨_, k2⟩ := h2; ⟨_, .tup e (by show 2 ≤ 1000; decide) (.cons k1 (.cons k2 .nil))⟩
theorem tq3 (e : H a = some (.tup [u, v, w])) (h1 : Tq H n u) (h2 : Tq H n v) (h3 : Tq H n w) : Tq H (n + 1) (.ref a) := let ⟨_, k1⟩ := h1; let ⟨_, k2⟩ := h2; let ⟨_, k3⟩ := h3; ⟨_, .tup e (by show 3 ≤ 1000; decide) (.cons k1 (.cons k2 (.cons k3 .nil)))⟩
theorem tq4 (e : H a = some (.tup [u, v, w, x])) (h1 : Tq H n u) (h2 : Tq H n v) (h3 : Tq H n w) (h4 : Tq H n x) : Tq H (n + 1) (.ref a) := let ⟨_, k1⟩ := h1; let ⟨_, k2⟩ := h2; let ⟨_, k3⟩ := h3; let ⟨_, k4⟩ := h4; ⟨_, .tup e (by show 4 ≤ 1000; decide) (.cons k1 (.cons k2 (.cons k3 (.cons k4 .nil))))⟩
theorem tl1 (e : H a = some (.lst [u])) (h1 : Tq H n u) : Tq H (n + 1) (.ref a) := let ⟨_, k1⟩ := h1; ⟨_, .lst e (by show 1 ≤ 1000; decide) (.cons k1 .nil)⟩
theorem tl3 (e : H a = some (.lst [u, v, w])) (h1 : Tq H n u) (h2 : Tq H n v) (h3 : Tq H n w) : Tq H (n + 1) (.ref a) := let ⟨_, k1⟩ := h1; let ⟨_, k2⟩ := h2; let ⟨_, k3⟩ := h3; ⟨_, .lst e (by show 3 ≤ 1000; decide) (.cons k1 (.cons k2 (.cons k3 .nil)))⟩
end
theorem td_mono {H : Hp} {n : Nat} {x : V} {d : PyData} (h : Td H n x d) : ∀ k, Td H (n + k) x d
  | 0 => h
  | k + 1 => td_up (td_mono h k)
theorem tds_items {K : PySem.W.Frag} {H : Hp} : ∀ {n : Nat} {xs : List V} {ds : List PyData}, n ≤ 8 → Tds H n xs ds → ∀ y ∈ xs, Item K H y
  | _, _, _, _, .nil, _, hy => by cases hy
  | n, _, _, l, .cons h t, y, hy => by
    rcases List.mem_cons.mp hy with rfl | hy
    · have k := td_dp (K := K) h
      exact ⟨td_known h, _, k.1, k.2.1, Nat.le_trans k.2.2 l⟩
    · exact tds_items l t y hy
theorem td_thing {K : PySem.W.Frag} {H : Hp} {n : Nat} {x : V} {d : PyData} (l : n ≤ 8) (h : Td H n x d) : Thing K H x := by
  cases h with
  | non => exact thing_flat (fun a e => by cases e) (.base .non) (by decide +kernel)
  | bl b => exact thing_flat (fun a e => by cases e) (.base (.bl b)) (by decide +kernel)
  | int i => exact thing_flat (fun a e => by cases e) (.base (.int i)) (by decide +kernel)
  | str h => exact thing_str _
  | lst e _ _ => exact thing_lst e
  | tup e le ts => exact .inl ⟨_, _, rfl, .inl e, le, tds_items (by omega) ts⟩
/-! methods -/
def strsD (ds : List PyData) : List Str := ds.filterMap fun | .str z => some z | _ => none
def rowD : PyData → Bool
  | .tuple ds => ds.all nmD && decide (((seen (strsD ds)).length : Int) = ds.length) && decide ((ds.length : Int) ≤ 4)
  | _ => false
def wordsD : PyData → Bool
  | .tuple ds => ds.all nmD && decide ((ds.length : Int) ≤ 4)
  | _ => false
def nilD : PyData → Bool
  | .tuple [] => true
  | _ => false
def methD : PyData → Bool
  | .tuple [t, b, .none, a] => rowD t && wordsD b && wordsD a && nilD a
  | .tuple [t, b, p, a] => rowD t && wordsD b && wordsD a && rowD p
  | _ => false
theorem td_nm {H : Hp} {n : Nat} {x : V} {d : PyData} (h : Td H n x d) : nameV x = nmD d := by
  cases h <;> rfl
theorem tds_nms {H : Hp} : ∀ {n : Nat} {xs : List V} {ds : List PyData}, Tds H n xs ds → xs.all nameV = ds.all nmD ∧ strsOf xs = strsD ds
  | _, _, _, .nil => ⟨rfl, rfl⟩
  | _, _, _, .cons (x := x) (d := d) h t => by
    obtain ⟨i1, i2⟩ := tds_nms t
    refine ⟨by rw [List.all_cons, List.all_cons, i1, td_nm h], ?_⟩
    cases h <;> simp [strsOf, strsD] at i2 ⊢ <;> exact i2
theorem tupOf_lst {H : Hp} {a : Addr} {xs : List V} (h : H a = some (.lst xs)) : tupOf H (.ref a) = none := by
  show (match H a with | some (.tup xs) => some xs | some (.frz _ (.tup xs)) => some xs | _ => none) = none
  rw [h]
def namesD : PyData → Bool
  | .tuple ds => ds.all nmD
  | _ => false
theorem td_row {H : Hp} {n : Nat} {x : V} {d : PyData} (h : Td H n x d) : rowV H x = rowD d := by
  cases h with
  | tup e l ts =>
    unfold rowV
    rw [tupOf_at (.inl e)]
    obtain ⟨i1, i2⟩ := tds_nms ts
    show (diffV _ && _) = _
    unfold diffV
    rw [i1, i2, tds_len ts]
    rfl
  | lst e l ts =>
    unfold rowV
    rw [tupOf_lst e]
    rfl
  | _ => rfl
theorem td_names {H : Hp} {n : Nat} {x : V} {d : PyData} (h : Td H n x d) : namesV H x = namesD d := by
  cases h with
  | tup e l ts =>
    unfold namesV
    rw [tupOf_at (.inl e)]
    exact (tds_nms ts).1
  | lst e l ts =>
    unfold namesV
    rw [tupOf_lst e]
    rfl
  | _ => rfl
end Nb

set_option Elab.async false
set_option maxRecDepth 100000
set_option maxHeartbeats 4000000
/-! A caught error that is asked behind its handler: it is told in the heap from then on. -/
namespace Nb
open PySem PySem.Spec PyProof.Rows L2
/-- an error of the class cls, its dict at d, that flies no more -/
def Ke (cls : Value) (d : Option Addr) (a : Addr) : HO := .ext fun h => ∃ (oe : Obj) (vs : Array Value), h.get? a = some oe ∧ Zc cls d oe ∧ oe.data = .fields vs
theorem ke_ok {P : Program} {w : World} {H : Hp} {h : Heap} {a : Addr} {cls : Value} {d : Option Addr} {oe : Obj} {vs : Array Value} (e : h.get? a = some oe) (z : Zc cls d oe) (f : oe.data = .fields vs) : ObjOk P w H h a (Ke cls d a) :=
  ⟨⟨oe, vs, e, z, f⟩, ⟨oe, e⟩, fun _ _ ⟨o, ws, e1, z1, f1⟩ k => ⟨o, ws, k o e1, z1, f1⟩⟩
theorem ke_at {P : Program} {w : World} {H : Hp} {h : Heap} {a : Addr} {cls : Value} {d : Option Addr} (hok : HOk P w H h) (e : H a = some (Ke cls d a)) : ∃ (oe : Obj) (vs : Array Value), h.get? a = some oe ∧ Zc cls d oe ∧ oe.data = .fields vs := (show ObjOk P w H h a (Ke cls d a) from hok a _ e).1
section
variable {X : Cx} {pins : List (Addr × Obj)} {σ : L2.St} {H : Hp} {s : Shared} {a : Addr}
/-- what is new since the def began, and stands nowhere, may be told -/
theorem inv_tell {o : HO} (I : Inv X pins σ H s) (na : H a = none) (n0 : X.s_0.heap.get? a = none) (nL : a ≠ X.env.locals) (nC : ∀ v, ¬ s.heap.IsCell a v) (nP : ∀ p ∈ X.pn ++ pins, p.1 ≠ a) (ho : ObjOk X.prog X.w (upd H a o) s.heap a o) :
    Inv X pins σ (upd H a o) s := by
  have ne : ∀ {b : Addr} {u : HO}, H b = some u → b ≠ a := fun e => ne_of_none e na
  refine ⟨I.ok, I.os, I.bare, ?_, I.loc, I.cell, ?_, ?_, ?_, ?_, I.len⟩
  · refine ⟨I.base.keep, I.base.slot, fun b ob e n hx => ?_, I.base.there, fun b xs e => ?_, fun b ob u e => ?_, fun b ps e => ?_⟩
    · have nb : b ≠ a := fun z => by
        rw [z, n0] at e
        cases e
      rw [upd_ne nb]
      exact I.base.free b ob e n hx
    · have t := I.base.tups b xs e
      rw [upd_ne (ne t)]
      exact t
    · have t := I.base.frzs b ob u e
      rw [upd_ne (ne t)]
      exact t
    · obtain ⟨m, t⟩ := I.base.tbls b ps e
      exact ⟨m, by rw [upd_ne (ne t)]; exact t⟩
  · rw [upd_ne (Ne.symm nL)]
    exact I.free
  · intro y c hc
    have nc : c ≠ a := fun z => by
      obtain ⟨v, hv⟩ := I.cell y c hc
      exact nC v (z ▸ hv)
    rw [upd_ne nc]
    exact I.freeC y c hc
  · intro p hp
    obtain ⟨p1, p2, p3⟩ := I.pin p hp
    exact ⟨p1, by rw [upd_ne (nP p hp)]; exact p2, p3⟩
  · intro b u e
    by_cases hb : b = a
    · subst hb
      rw [upd_same] at e
      cases e
      exact ho
    · rw [upd_ne hb] at e
      exact (I.hok b u e).stay (fun c v _ q => q) (fun c q => by rw [upd_ne (ne q)]; exact q) fun c xs q => by rw [upd_ne (ne q)]; exact q
end
/-- what such a clause wishes of an error of the body: slot i is the name of the clause -/
def wKept (K : PySem.W.Frag) (c : Value) (i : Nat) (ts : Addr → Value → Option Addr → TS) (D : Ends) : WX := fun cls d σ H =>
  PySem.W.exmOne K cls c = some true ∧ ∀ a, H a = none → ts a cls d { nx := fun σ' H' => D.nx (σ'.set i none) (upd H' a (Ke cls d a)), rt := fun v H' => D.rt v (upd H' a (Ke cls d a)), bk := fun σ' H' => D.bk (σ'.set i none) (upd H' a (Ke cls d a)), ct := fun σ' H' => D.ct (σ'.set i none) (upd H' a (Ke cls d a)) } (σ.set i (some (.ref a))) H
section
variable {X : Cx} {nm : Str} {c : Value} {i : Nat} {x : Str} {body su : List Stmt} {b1 : Stmt} {px p1 p2 : Pos} {tb : WX → TS} {ts : Addr → Value → Option Addr → TS}
/-- try: .. except C as n: .., where the body lets out nothing but errors of C: what is caught is told in the heap behind the clause -/
theorem ps_try_kept (st : X.stack = X.env :: X.outer) (fl : X.env.frame = some X.env.locals) (x0 : X.ex = []) (nd : X.N.Nodup) (at_ : X.N[i]? = some nm) (lc : X.env.kindOf nm = some .local) (cn : Names X x c)
    (tbd : ∀ (W : WX) (pn : List (Addr × Obj)) (xe : Value → Shared → Prop), Takes (X.tr pn xe) W → PassesOwn (model X.prog X.w) X.A X.env xe → PSs (X.tr pn xe) body (tb W))
    (tsu : ∀ (a : Addr) (oe : Obj) (cls : Value) (d : Option Addr) (pn : List (Addr × Obj)), Zc cls d oe → (∃ vs, oe.data = .fields vs) → PSs (X.suite a ((a, oe) :: pn)) (b1 :: su) (ts a cls d)) :
    PS X (.Try body [.ExceptHandler (some (.Name x px)) (some nm) (b1 :: su) p1] [] [] p2) (fun D σ H => tb (wKept X.K c i ts D) D σ H) := by
  refine ⟨fun pins s σ H D I h => wpAny_Try_except ?_⟩
  have ok := I.ok
  have fr : X.A.frames = some (X.env :: X.outer) := by rw [ok.frames, st]
  refine wpAny_mono ((tbd (wKept X.K c i ts D) (X.pn ++ pins) _ ?take PassesOwn.looking).run [] s σ H D (I.toTry _) h) (fun f s1 r => ?done) (fun e s1 r => r)
  case done =>
    cases f with
    | next =>
      obtain ⟨σ1, H1, J, r⟩ := r
      exact wpAny_execs_nil ⟨σ1, H1, J.ofTry ok, r⟩
    | ret u =>
      obtain ⟨v, σ1, H1, J, e, r⟩ := r
      exact ⟨v, σ1, H1, J.ofTry ok, e, r⟩
    | brk =>
      obtain ⟨σ1, H1, J, r⟩ := r
      exact ⟨σ1, H1, J.ofTry ok, r⟩
    | cont =>
      obtain ⟨σ1, H1, J, r⟩ := r
      exact ⟨σ1, H1, J.ofTry ok, r⟩
  case take =>
    rintro u s1 ⟨a, B, s0, ps, σ1, H1, cls, d, rfl, J0, inB, up, sky, na, os, ag, mt, yes⟩
    have J := J0.ofTry (pn' := ps) ok
    have sky1 : Sky B (X.env :: X.outer) a (Zc cls d) X.env.locals s1.heap := st ▸ sky
    have notB : B.get? a = none := by
      rcases sky1 with k | k | k
      · exact k.2.1
      · exact k.2.1
      · exact k.2.1
    refine Sky.land Zc.steady fr fl sky1 fun h2 f2 up2 => ?_
    have J2 : Inv X pins σ1 H1 { s1 with heap := h2 } := J.landed inB f2.1 (up.trans up2) os ag
    obtain ⟨o2, w2, e2, z2, d2⟩ := f2.there
    have out : a ∉ frs (X.env :: X.outer) := fun hm => by
      obtain ⟨_, o, eo, no⟩ := f2.2.2.1.mem hm
      rw [e2] at eo
      cases eo
      exact no _ d2
    have nL : a ≠ X.env.locals := fun z => out (List.mem_filterMap.mpr ⟨X.env, List.mem_cons_self, by rw [fl, z]⟩)
    have nF : a ∉ X.fs := fun hm => by
      obtain ⟨e, he, q⟩ := List.mem_filterMap.mp hm
      exact out (List.mem_filterMap.mpr ⟨e, List.mem_cons_of_mem _ he, q⟩)
    have gone : ∀ {b : Addr} {o : Obj}, s0.heap.get? b = some o → b ∉ frs X.stack → b ≠ a := fun e n z => by
      have q := inB _ _ e n
      rw [z, notB] at q
      cases q
    have outS : a ∉ frs X.stack := st ▸ out
    have new0 : X.s_0.heap.get? a = none := by
      cases e : X.s_0.heap.get? a with
      | none => rfl
      | some o =>
        obtain ⟨o', e'⟩ := J.base.there a o e (by rw [x0]; exact fun z => nomatch z)
        exact absurd rfl (gone e' outS)
    have nP : ∀ p ∈ X.pn ++ pins, p.1 ≠ a := fun p hp => by
      obtain ⟨g1, _, g3, g4, _⟩ := J.pin p hp
      refine gone g1 fun hm => ?_
      rw [st] at hm
      obtain ⟨e, he, q⟩ := List.mem_filterMap.mp hm
      rcases List.mem_cons.mp he with rfl | he
      · rw [fl] at q
        exact g3 (Option.some.inj q).symm
      · exact g4 (List.mem_filterMap.mpr ⟨e, he, q⟩)
    have S2 := J2.suite e2 d2 na nL nF
    have isC : PySem.W.Looks (model X.prog X.w) h2 (typeOf (.ref a)) cls := fun A Q E s k q => wpAny_typeOf_ref (k _ _ e2) (by rw [z2.1]; exact q)
    have asks := PySem.W.exm_one (M := model X.prog X.w) J2.kIn isC mt
    have named : ∀ {Q : Value → Shared → Prop} {E : Value → Shared → Prop}, Q c { s1 with heap := h2 } → wpAny (model X.prog X.w) (X.A.mark (some (.ref a))) (eval (.Name x px) X.env) Q E { s1 with heap := h2 } := fun q => by
      rcases cn with ⟨g1, g2, g3 | ⟨g3, g4, g5⟩⟩
      · exact ld_glob (X := X.suite a ((a, o2) :: (X.pn ++ pins))) S2 g1 g3 q g2
      · exact ld_blt (X := X.suite a ((a, o2) :: (X.pn ++ pins))) S2 g1 g3 g4 q g5 g2
    refine wpAny_handleBy_cons (codeAny_handlers_test (named (asks.here ?_))) fun q => nomatch q
    refine codeAny_handlers_suite_as (HandSPX.lands_againZ f2 fun h3 f3 up3 => ?_)
    have J3 : Inv X pins σ1 H1 { s1 with heap := h3 } := J.landed inB f3.1 ((up.trans up2).trans up3) os ag
    obtain ⟨o3, w3, e3, z3, d3⟩ := f3.there
    refine store_ok (X := X.suite a ((a, o3) :: (X.pn ++ pins))) (v := .ref a) (J3.suite e3 d3 na nL nF) nd at_ (.inl lc) rfl (fun s4 S4 => ?_) (.inr lc)
    refine wpAny_mono ((tsu a o3 cls d (X.pn ++ pins) z3 ⟨_, d3⟩).run [] s4 _ H1 _ S4 (yes a na)) (fun f s5 r => ?_) (fun _ _ z => False.elim z)
    have close : ∀ {σ5 : L2.St} {H5 : Hp} {Q : Shared → Prop}, Inv (X.suite a ((a, o3) :: (X.pn ++ pins))) [] σ5 H5 s5 → (∀ s6, Inv X pins (σ5.set i none) (upd H5 a (Ke cls d a)) s6 → Q s6) →
        wpAny (model X.prog X.w) X.A (do bindName X.env nm .none; unbindBehindTheSuite X.env nm p1) (fun _ s6 => Q s6) X.xe s5 := fun {σ5 H5 Q} S5 q => by
      obtain ⟨g1, g2, _⟩ := S5.pin (a, o3) (List.mem_append_left _ List.mem_cons_self)
      have g1 : s5.heap.get? a = some o3 := g1
      refine gone_ok (inv_tell (S5.unsuite ok) g2 new0 nL (fun v hv => ?_) nP (ke_ok g1 z3 d3)) nd at_ lc q
      obtain ⟨o, ho, hd⟩ := hv
      rw [g1] at ho
      cases ho
      rw [d3] at hd
      cases hd
    cases f with
    | next =>
      obtain ⟨σ5, H5, S5, r⟩ := r
      exact close S5 fun s6 J6 => ⟨_, _, J6, r⟩
    | ret u =>
      obtain ⟨v, σ5, H5, S5, e, r⟩ := r
      exact close S5 fun s6 J6 => ⟨_, _, _, J6, e, r⟩
    | brk =>
      obtain ⟨σ5, H5, S5, r⟩ := r
      exact close S5 fun s6 J6 => ⟨_, _, J6, r⟩
    | cont =>
      obtain ⟨σ5, H5, S5, r⟩ := r
      exact close S5 fun s6 J6 => ⟨_, _, J6, r⟩
end
/-- an error that is told, with its fields -/
def KeptAt (H : Hp) (a D dd : Addr) (fs : List (Str × V)) : Prop := H a = some (Ke (.ref D) (some dd) a) ∧ H dd = some (.xd fs)
theorem kept_same {H H' : Hp} {a D dd : Addr} {fs : List (Str × V)} (s : Same H H') (h : KeptAt H a D dd fs) : KeptAt H' a D dd fs := ⟨s _ _ h.1, s _ _ h.2⟩
theorem kept_inst {P : Program} {w : World} {H : Hp} {h : Heap} {a D dd : Addr} {fs : List (Str × V)} (hok : HOk P w H h) (k : KeptAt H a D dd fs) :
    ∃ (oe od : Obj) (mA : Str → Option Value), PySem.W.InstAt h a oe D (some od) ∧ h.Ns1 dd mA ∧ (∀ f, RelO (fs.lookup f) (mA f)) ∧ ∀ f, PySem.W.lookIn f od = some (mA f) := by
  obtain ⟨oe, vs, e1, z1, f1⟩ := ke_at hok k.1
  have x : ObjOk P w H h dd (.xd fs) := hok dd _ k.2
  obtain ⟨mA, hns, hr⟩ := x
  obtain ⟨od, ho, hl⟩ := lookIn_ns hns
  refine ⟨oe, od, mA, ⟨e1, z1.1, ?_, ?_⟩, hns, hr, fun f => ?_⟩
  · unfold PySem.W.notCls
    rw [f1] <;> rfl
  · rw [z1.2]
    exact ho
  · exact hl f
/-- e.f of such an error -/
def tKf (K : PySem.W.Frag) (f : Str) (te : TE) : TE := fun σ H Q => te σ H fun x H1 => ∃ (a D dd : Addr) (fs : List (Str × V)) (v : V), x = .ref a ∧ XfC K D ∧ PySem.W.findIn K (.ref D) f = some none ∧ KeptAt H1 a D dd fs ∧ fs.lookup f = some v ∧ Q v H1
theorem pe_kf {X : Cx} {e : Expr} {te : TE} {pos : Pos} {f : Str} (he : PE X e te) (hb : attributeBase e f X.env (eval e X.env) = eval e X.env := by rfl) : PE X (.Attribute e f pos) (tKf X.K f te) := by
  refine ⟨fun pins s σ H Q I h => attr_of hb (thn (he.run pins s σ H _ I h) fun u s1 k => ?_)⟩
  obtain ⟨x, H1, I1, rx, a, D, dd, fs, v, rfl, T, no, ka, l, q⟩ := k
  cases rx
  obtain ⟨oe, od, mA, J, hns, hr, hl⟩ := kept_inst I1.hok ka
  obtain ⟨u, hu, ru⟩ := RelO.some_of (v := v) (o := mA f) (by rw [← l]; exact hr f)
  exact HandSPX.exc_get I1.kIn J T.ga T.gg T.exC (PySem.W.findObj_own T.hdC no rfl (by rw [hl, hu])) (handed_of ru) ⟨v, H1, I1.tok _, ru, q⟩
/-- isinstance(e, c) of such an error -/
def rIsK (K : PySem.W.Frag) : List V → Hp → VK → Prop := fun xs H Q => ∃ (a D dd : Addr) (fs : List (Str × V)) (c : V) (cv : Value) (b : Bool), xs = [.ref a, c] ∧ ExcC K D ∧ KeptAt H a D dd fs ∧ (∀ u, RelV c u → u = cv) ∧ PySem.W.kitOne K (.ref D) cv = some b ∧ Q (.bl b) H
theorem call_isK {X : Cx} : CallR X (.builtin "isinstance") (rIsK X.K) := by
  intro pins s σ H xs us Q I r h
  obtain ⟨a, D, dd, fs, c, cv, b, rfl, C, ka, hcv, e, q⟩ := h
  obtain ⟨oe, od, mA, J, _⟩ := kept_inst I.hok ka
  cases r with
  | cons rx rr => cases rr with
    | cons rt rr =>
      cases rr
      cases rx
      cases hcv _ rt
      obtain ⟨cd, hc, _⟩ := PySem.W.any_some C.hd
      exact PySem.W.kia_one (PySem.W.kitx_exc (by rw [hc]; rfl) C.hg C.hk C.hs C.ha C.hn C.ht C.hm) I.kIn J e (fun z => nomatch z) fun tk => ⟨.bl b, H, I.kept (t' := tk) fun _ _ z => z, rfl, q⟩
end Nb

set_option Elab.async false
set_option maxRecDepth 100000
set_option maxHeartbeats 4000000
/-! A law whose own body asks for repr of nested data: its def is run where no repr is under way. -/
namespace Nb
open PySem PySem.Spec L2
/-- what the def promises, where no repr is under way -/
def RunsG (P : Program) (w : World) (K : PySem.W.Frag) (mg : Str → Option Value) (base : Heap) (CX : CXT) (k : Nat) (f : Addr) (fd : FuncData) (ps : List Str) (sp : Sp) : Prop :=
  ∀ (A : Around) (outer : List Env) (s : Shared) (H : Hp) (args : Args) (us : List Value) (vs : List V) (Q : VK) (E : XK), A.guards = some [] → Room k A → Env0 P w K mg base A outer s H → BindsTo s fd args (ps.zip us) → Vals vs us → sp vs H Q E →
    codeAny (model P w) A (.call (.ref f) args) (CR CX outer P w H s Q E) s
section
variable {P : Program} {w : World} {K : PySem.W.Frag} {mg : Str → Option Value} {base : Heap}
theorem okG {x qual : Str} {st : Stmt} {f : Addr} {fd : FuncData} {N ps : List Str} {k : Nat} {sp : Sp} (F : Fun K x qual st f fd) (S : FnScope N ps (defScope st)) (len : ∀ vs H Q E, sp vs H Q E → vs.length = ps.length)
    (bd : ∀ (cdv : Value) (A : Around) (outer : List Env) (s : Shared) (H : Hp) (vs : List V) (Q : VK) (E : XK), A.guards = some [] → Room k (A.deeper (PyProof.Rows.envOfC qual (defScope st) s.heap.objs.size f cdv)) → sp vs H Q E →
      ∃ t, PSs (cxOf CX0 P w K mg base N qual (defScope st) f cdv A outer s H E).nox (defBody st) t ∧ t { nx := fun _ H' => Q .non H', rt := Q } (start N vs) H) : RunsG P w K mg base CX0 (k + 1) f fd ps sp := by
  obtain ⟨oc, od, kV, doc, pm, an, cdv, ct, osl, rfl, lk, hcd⟩ := F.ex
  intro A outer s H args us vs Q E gd hr e0 hb rv hs
  have inK : K.In s.heap := e0.mod.kin.keeps fun b o e => (e0.bs b o e).1
  have nl : s.heap.NoLimit := e0.mod.nolimit.keeps fun b o e => (e0.bs b o e).1
  have kinds : ∀ y ∈ ps.zip us, (defScope st).names.lookup y.1 = some .local ∨ ((defScope st).names.lookup y.1 = some .cell ∧ ((PySem.cellsFrom (s.heap.objs.size + 1) (defScope st).names []).lookup y.1).isSome = true) := by
    rintro ⟨n, v⟩ hy
    exact (S.par n (List.of_mem_zip hy).1).imp id fun q => ⟨q, PySem.W.cellsFrom_some _ _ _ (.inl q)⟩
  refine codeAny_call_function hr.depth (inK _ _ lk) rfl S.co S.gen rfl (PySem.W.codeRec_of inK hcd) (hb _ _ _ _ ?_)
  refine wpAny_newFunctionEnv_cells S.kind kinds fun env he s1 x1 => ?_
  subst he
  obtain ⟨t, ht, q⟩ := bd cdv A outer s H vs Q E gd (hr.deeper _) hs
  have I : Inv (cxOf CX0 P w K mg base N qual (defScope st) f cdv A outer s H E) [] (start N vs) H s1 := inv_start S hr.hd e0 (len _ _ _ _ hs) rv x1
  refine ⟨nl.keeps x1.toInCall.keep, codeAny_func (wpAny_mono (ht.nox.run [] s1 (start N vs) H _ I q) (fun fl s2 r => ?_) fun _ _ r => r)⟩
  cases fl with
  | ret u =>
    obtain ⟨v, σ, H2, J, e, r⟩ := r
    exact ⟨v, H2, J.os, J.bare, J.base, J.hok, e, r⟩
  | next =>
    obtain ⟨σ, H2, J, r⟩ := r
    exact ⟨.non, H2, J.os, J.bare, J.base, J.hok, rfl, r⟩
  | brk => exact False.elim r.choose_spec.choose_spec.2
  | cont => exact False.elim r.choose_spec.choose_spec.2
end
open PyProof.Rows (IntsAre AllBare)
/-- the heap at the law's call: nothing is told but the script, if it is no object of the module -/
theorem script_heap {P : Program} {w : World} {K : PySem.W.Frag} {h : Heap} {a : Addr} {vs : List Value} {ns : List Int} (inK : K.In h) (ea : h.get? a = some { cls := .type "list", data := .seq vs.toArray }) (hi : IntsAre vs ns) (hl : ns.length ≤ sizeLine) :
    ∃ H : Hp, Only H ∧ SqL K H a (ns.map V.int) ∧ HOk P w H h ∧ ∀ b, H b ≠ none → b = a ∧ K.lookup b = none := by
  have rv := vals_ints hi
  cases hk : K.lookup a with
  | none =>
    obtain ⟨H, eH⟩ : ∃ H : Hp, H = upd (fun _ => none) a (.frz { cls := .type "list", data := .seq vs.toArray } (.lst (ns.map V.int))) := ⟨_, rfl⟩
    have at_a : H a = some (.frz { cls := .type "list", data := .seq vs.toArray } (.lst (ns.map V.int))) := by
      rw [eH]
      exact upd_same
    have off : ∀ b, b ≠ a → H b = none := fun b hb => by
      rw [eH, upd_ne hb]
    refine ⟨H, fun b => ?_, .inl (.inr ⟨_, at_a⟩), fun b o e => ?_, fun b e => ?_⟩
    · by_cases hb : b = a
      · exact .inr ⟨_, _, hb ▸ at_a⟩
      · exact .inl (off b hb)
    · by_cases hb : b = a
      · subst hb
        rw [at_a] at e
        cases e
        exact ⟨ea, by rw [List.length_map]; exact hl, vs, _, rv, ea⟩
      · rw [off b hb] at e
        cases e
    · by_cases hb : b = a
      · exact ⟨hb, hb ▸ hk⟩
      · exact absurd (off b hb) e
  | some o =>
    have e := inK a o hk
    rw [ea] at e
    cases e
    exact ⟨fun _ => none, fun _ => .inl rfl, .inr ⟨_, vs.toArray, _, hk, rfl, rfl, rfl, by rw [List.size_toArray, hi.length]; exact hl, by simpa using rv⟩, fun b u z => (nomatch (show (none : Option HO) = some u from z)), fun b z => absurd rfl z⟩
theorem law_runs {P : Program} {w : World} {K : PySem.W.Frag} {mg mb : Str → Option Value} {CX : CXT} {k : Nat} {fa a : Addr} {fd : FuncData} {x : Str} {sp : Sp} {s1 : Shared} {vs : List Value} {ns : List Int}
    (inK : K.In s1.heap) (n1 : s1.heap.Ns mainGlobals mg) (n2 : s1.heap.Ns builtinsNs mb) (n3 : ∀ x : Str, x ≠ "__name__" → mb x = bootBuiltins x) (n4 : s1.heap.NoLimit) (hg : s1.gens = #[])
    (ea : s1.heap.get? a = some { cls := .type "list", data := .seq vs.toArray }) (hi : IntsAre vs ns) (hl : ns.length ≤ sizeLine) (hr : Room k callerA)
    (F : ∀ base : Heap, K.In base → base.Ns mainGlobals mg → RunsG P w K mg base CX k fa fd [x] sp) (bd : ∀ (s : Shared) (u : Value), BindsTo s fd ⟨[u], []⟩ [(x, u)])
    (hs : ∀ H : Hp, Only H → SqL K H a (ns.map V.int) → sp [.ref a] H (fun v _ => v = .bl true) fun _ _ _ => False) (hx : ∀ H e s', CX [] H s1 (fun _ _ _ => False) e s' → False) :
    codeAny (model P w) callerA (.call (.ref fa) ⟨[.ref a], []⟩) (fun r s' => r = .ok (.ret (.bool true)) ∧ OldK s1.heap s'.heap ∧ s'.os = s1.os ∧ AllBare s'.gens) s1 := by
  obtain ⟨H, hO, hS, hok, hA⟩ := script_heap (P := P) (w := w) inK ea hi hl
  have notDict : ∀ {b : Addr} {o : Obj} {es : Array DictEntry} {ep : Nat}, s1.heap.get? b = some o → o.data = .dict es ep → H b = none := fun {b o es ep} e d => by
    cases q : H b with
    | none => rfl
    | some u =>
      obtain ⟨rfl, _⟩ := hA b (by rw [q]; exact fun z => nomatch z)
      rw [ea] at e
      cases e
      cases (show Data.seq vs.toArray _ = Data.dict es ep from d)
  have names : ∀ {b : Addr} {m : Str → Option Value}, s1.heap.Ns b m → (hidT s1.heap H).Ns b m := fun ⟨o, es, ep, e, d, r⟩ => ⟨o, es, ep, hidT_get e (notDict e d), d, r⟩
  have inB : K.In (hidT s1.heap H) := fun b o e => hidT_get (inK b o e) (by
    cases q : H b with
    | none => rfl
    | some u =>
      have z := (hA b (by rw [q]; exact fun z => nomatch z)).2
      rw [z] at e
      cases e)
  obtain ⟨mc, c1, c2⟩ := n4
  have e0 : Env0 P w K mg (hidT s1.heap H) callerA [] s1 H := ⟨rfl, ⟨inB, names n1, ⟨mb, names n2, n3⟩, ⟨mc, names c1, c2⟩⟩, fun b o e => of_hidT e, Nat.le_of_eq (hidT_size _ _), trivial, fun b hb => (nomatch hb), hok, .of_eq hg⟩
  refine codeAny_mono (F _ inB (names n1) callerA [] s1 H ⟨[.ref a], []⟩ [.ref a] [.ref a] _ _ rfl hr e0 (bd s1 (.ref a)) (.cons rfl .nil) (hs H hO hS)) fun r s2 q => ?_
  cases r with
  | error e => exact (hx H e s2 q).elim
  | ok fl =>
    cases fl with
    | ret u =>
      obtain ⟨v, H2, os, bare, un, hok2, r1, r2⟩ := q
      cases (show v = .bl true from r2)
      cases (show u = Value.bool true from r1)
      refine ⟨rfl, OldK.of_keep fun b o e => ?_, os, bare⟩
      rcases hO b with z | ⟨ob, xs, z⟩
      · exact un.keep b o e z (fun z => nomatch z) (fun z => nomatch z)
      · obtain ⟨g1, _⟩ := hok b _ z
        obtain ⟨g2, _⟩ := hok2 b _ (un.frzs b ob _ z)
        rw [e] at g1
        cases g1
        exact g2
    | next => exact False.elim q
    | brk => exact False.elim q
    | cont => exact False.elim q
/-- the head, where the law's own def is run with no repr under way -/
theorem walk_ofG {l : PySem.W.OpenLaw} {n k : Nat} {q : Program} {loose : List Str} {XP : (Str → Option Value) → Heap → Prop} {YP : World → Heap → Prop} {d : DefRec} {K : Params → PySem.W.Frag} {CX : World → CXT} {sp : World → Sp} {x : Str}
    (hn : l.most = some n) (hm : n ≤ sizeLine) (hd : d.params.defaults = []) (hr : Room k callerA) (hY : ∀ (w : World) (h : Heap), YP w h → (K w.params).In h)
    (F : ∀ (w : World) (mg : Str → Option Value) (fa : Addr) (h : Heap), (K w.params).In h → h.Ns mainGlobals mg → mg d.name = some (.ref fa) → ∃ fd : FuncData, (∀ (s : Shared) (u : Value), BindsTo s fd ⟨[u], []⟩ [(x, u)]) ∧
      ∀ base : Heap, (K w.params).In base → base.Ns mainGlobals mg → RunsG l.prog w (K w.params) mg base (CX w) k fa fd [x] (sp w))
    (hs : ∀ (w : World) (H : Hp) (a : Addr) (ns : List Int), ns.length ≤ n → Only H → SqL (K w.params) H a (ns.map V.int) → sp w [.ref a] H (fun v _ => v = .bl true) fun _ _ _ => False)
    (hx : ∀ (w : World) (H : Hp) (s : Shared) (e : Value) (s' : Shared), CX w [] H s (fun _ _ _ => False) e s' → False) : PySem.W.WalkO q loose XP YP l.row.toRowW d [] (fun f vs => PySem.call f vs) := by
  refine Att.attach_call hn hd fun w s0 s1 mg mb fa o pm cd doc a vs ns G Y e1 e2 e3 e4 ea hi hl hg => ?_
  obtain ⟨fd, bd, R⟩ := F w mg fa _ (hY w _ Y) G.T.g e4
  exact law_runs (hY w _ Y) G.T.g G.T.b G.T.builtins G.T.nolimit hg ea hi (Nat.le_trans hl hm) hr R bd (fun H hO hS => hs w H a ns hl hO hS) fun H e s' => hx w H s1 e s'
end Nb

set_option Elab.async false
set_option maxRecDepth 100000
set_option maxHeartbeats 4000000
/-! repr of small data, where no repr is under way. -/
namespace Nb
open PySem L2
def okR (w : Nat) (d : PyData) : Prop := d.showable = true ∧ d.intsShort 13 = true ∧ d.weight ≤ w
/-- small data: w is its weight at most -/
def Tw (H : Hp) (n w : Nat) (v : V) : Prop := ∃ d, Td H n v d ∧ okR w d
section
variable {H H' : Hp} {n w : Nat} {v : V}
theorem tw_same (s : Same H H') (h : Tw H n w v) : Tw H' n w v := let ⟨d, k, o⟩ := h; ⟨d, td_same s k, o⟩
theorem tw_up (h : Tw H n w v) (k : Nat) : Tw H (n + k) w v := let ⟨d, t, o⟩ := h; ⟨d, td_mono t k, o⟩
theorem tw_mono (h : Tw H n w v) {u : Nat} (l : w ≤ u) : Tw H n u v := let ⟨d, t, o⟩ := h; ⟨d, t, o.1, o.2.1, Nat.le_trans o.2.2 l⟩
theorem tw_non : Tw H n w .non := ⟨_, .non, rfl, rfl, by simp [PyData.weight]⟩
theorem tw_bl (b : Bool) : Tw H n w (.bl b) := ⟨_, .bl b, rfl, rfl, by simp [PyData.weight]⟩
theorem tw_str {z : Str} (h : Word z) (l : z.length ≤ w) : Tw H n w (.str z) := ⟨_, .str h, rfl, rfl, l⟩
theorem tw_int {i : Int} (h : okR w (.int i)) : Tw H n w (.int i) := ⟨_, .int i, h⟩
theorem tw_all : ∀ {xs : List V}, (∀ x ∈ xs, Tw H n w x) → ∃ ds, Tds H n xs ds ∧ PyData.showableAll ds = true ∧ PyData.intsShortAll 13 ds = true ∧ PyData.weightAll ds ≤ (w + 1) * xs.length
  | [], _ => ⟨[], .nil, rfl, rfl, by simp [PyData.weightAll]⟩
  | x :: xs, h => by
    obtain ⟨d, t, o1, o2, o3⟩ := h x (List.mem_cons_self ..)
    obtain ⟨ds, ts, p1, p2, p3⟩ := tw_all (xs := xs) fun y hy => h y (List.mem_cons_of_mem _ hy)
    refine ⟨d :: ds, .cons t ts, by simp [PyData.showableAll, o1, p1], by simp [PyData.intsShortAll, o2, p2], ?_⟩
    simp only [PyData.weightAll, List.length_cons, Nat.mul_add]
    omega
theorem tw_tup {a : Addr} {xs : List V} (e : H a = some (.tup xs)) (l : xs.length ≤ 1000) (h : ∀ x ∈ xs, Tw H n w x) : Tw H (n + 1) ((w + 1) * xs.length) (.ref a) := by
  obtain ⟨ds, t, p1, p2, p3⟩ := tw_all h
  exact ⟨.tuple ds, .tup e l t, by simpa [PyData.showable] using p1, by simpa [PyData.intsShort] using p2, by simpa [PyData.weight] using p3⟩
theorem tw_lst {a : Addr} {xs : List V} (e : H a = some (.lst xs)) (l : xs.length ≤ 1000) (h : ∀ x ∈ xs, Tw H n w x) : Tw H (n + 1) ((w + 1) * xs.length) (.ref a) := by
  obtain ⟨ds, t, p1, p2, p3⟩ := tw_all h
  exact ⟨.list ds, .lst e l t, by simpa [PyData.showable] using p1, by simpa [PyData.intsShort] using p2, by simpa [PyData.weight] using p3⟩
end
theorem td_hasDict {H : Hp} : ∀ {n : Nat} {x : V} {d : PyData}, Td H n x d → d.hasDict = false := fun h => PyData.hasDict_of_canLay _ (td_dp (K := []) h).2.1
/-- repr of small data -/
theorem cr_reprD {X : Cx} (g : X.A.guards = some []) (u : X.A.units + 100 < cLine) : CallR X (.builtin "repr") (fun xs H Q => ∃ (x : V) (d : PyData) (n : Nat), xs = [x] ∧ Td H n x d ∧ n ≤ 60 ∧ okR (2 ^ 20) d ∧ Q (.str d.shown) H) := by
  intro pins s σ H xs us Q I r h
  obtain ⟨x, d, n, rfl, hd, hn, o, q⟩ := h
  obtain ⟨v, rfl, rv⟩ := vals1 r
  obtain ⟨k1, k2, k3⟩ := td_dp (K := X.K) hd
  obtain ⟨as, rd⟩ := Dp.reads I d x v k1 rv
  have lay : PyData.layable0 d = true := by
    unfold PyData.layable0
    rw [k2, decide_eq_true (show d.depth ≤ 64 by omega), decide_eq_true o.2.2]
    rfl
  have sz : d.shown.length ≤ sizeLine := Nat.le_trans (PyProof.Rows.shown_le13 lay o.2.1) (by decide)
  have nd := td_hasDict hd
  have byRef : ∀ a : Addr, v = .ref a → wpAny (model X.prog X.w) X.A (call (.builtin "repr") [v]) (EP X pins σ Q) X.xe s := fun a e => by
    subst e
    exact repr_of_reads' rd o.1 (fun z => by rw [nd] at z; cases z) g (by omega) (fun _ _ e => e) (fun h' t tk hk => ⟨.str d.shown, H, I.kept (t' := tk) hk, ⟨_, rfl⟩, q⟩) sz
  cases hd with
  | non =>
    cases (show v = Value.none from rv)
    exact PySem.P.repr_of_none ⟨.str _, H, I.tok _, ⟨_, rfl⟩, q⟩
  | bl b =>
    cases (show v = Value.bool b from rv)
    exact PySem.P.repr_of_bool ⟨.str _, H, I.tok _, ⟨_, rfl⟩, q⟩
  | int i =>
    obtain ⟨t, rfl⟩ := rv
    exact PySem.P.repr_of_int (of_decide_eq_true o.1) ⟨.str _, H, I.tok _, ⟨_, rfl⟩, q⟩
  | str z =>
    obtain ⟨t, rfl⟩ := rv
    exact PySem.P.repr_of_str ⟨.str _, H, I.tok _, ⟨_, rfl⟩, q⟩ sz
  | lst e l ts => exact byRef _ rv
  | tup e l ts => exact byRef _ rv
/-- repr of small data, or of an empty dict -/
theorem cr_reprX {X : Cx} (g : X.A.guards = some []) (u : X.A.units + 100 < cLine) : CallR X (.builtin "repr") (fun xs H Q => (∃ (x : V) (d : PyData) (n : Nat), xs = [x] ∧ Td H n x d ∧ n ≤ 60 ∧ okR (2 ^ 20) d ∧ Q (.str d.shown) H) ∨
    ∃ a, xs = [.ref a] ∧ H a = some (.dK []) ∧ Q (.str (PyData.dict []).shown) H) := by
  intro pins s σ H xs us Q I r h
  rcases h with h | ⟨a, rfl, e, q⟩
  · exact cr_reprD g u pins s σ H xs us Q I r h
  · obtain ⟨v, rfl, rv⟩ := vals1 r
    cases rv
    have ho : ObjOk X.prog X.w H s.heap a (.dK []) := I.hok a _ e
    obtain ⟨_, nm, vs, kv, o, es, ep, e1, e2, e3, _, e5, _⟩ := ho
    cases kv
    have e6 : es.toList = [] := by
      cases hz : es.toList with
      | nil => rfl
      | cons z zs =>
        rw [hz] at e5
        cases e5
    have rd : Reads s.heap (.ref a) (.dict []) (a :: [] ++ []) := .dict e1 e2.1 e3 (by rw [e6]; exact .nil) (by rw [e6]; exact .nil)
    have dz : (PyData.dict []).depth ≤ 10 := by decide +kernel
    refine repr_of_reads' rd rfl (fun _ hm => ?_) g (by omega) (fun _ _ e => e) (fun h' t tk hk => ⟨.str _, H, I.kept (t' := tk) hk, ⟨_, rfl⟩, q⟩) (by decide +kernel)
    have : sysModules = a := by simpa using hm
    rw [this] at nm
    simp at nm
end Nb

set_option Elab.async false
set_option maxRecDepth 100000
set_option maxHeartbeats 4000000
namespace K03
open PySem L2 Nb
def topS (i : Nat) : Stmt := PySem.Challenge.pw_nextbehind_k03_methods_recognized.main.body.getD i (.Pass ⟨0, 0, 0, 0⟩)
abbrev sSource : Stmt := topS 17
abbrev sNext : Stmt := topS 18
abbrev sPick : Stmt := topS 19
theorem scSource : FnScope ["_law_script", "_law_k", "_law_cell"] ["_law_script", "_law_k"] (defScope sSource) := ⟨rfl, rfl, rfl, by decide +kernel, rfl, by decide +kernel, by decide +kernel⟩
theorem scNext : FnScope ["_law_source_here", "_law_many", "_law_found", "_law_primes", "_law_prime"] ["_law_source_here", "_law_many"] (defScope sNext) := ⟨rfl, rfl, rfl, by decide +kernel, rfl, by decide +kernel, by decide +kernel⟩
theorem scPick : FnScope ["_law_source_here", "_law_items"] ["_law_source_here", "_law_items"] (defScope sPick) := ⟨rfl, rfl, rfl, by decide +kernel, rfl, by decide +kernel, by decide +kernel⟩
section
variable {P : Program} {w : World} {K : PySem.W.Frag} {mg : Str → Option Value} {base : Heap}
theorem ok_source {f : Addr} {fd : FuncData} (F : Fun K "_law_source" "_law_source" sSource f fd) (ml : mg "len" = none) : FnOk P w K mg base CX0 1 f fd ["_law_script", "_law_k"] (spSource K) := by
  refine F.ok scSource (fun vs H Q E h => ?_) (fun cdv A outer s H vs Q E hr h => ?_)
  · obtain ⟨a, ns, k, rfl, _⟩ := h
    rfl
  · obtain ⟨a, ns, k, rfl, hS, hlen, hk, q⟩ := h
    refine ⟨_, pss_cons (ps_set (i := 2) scSource.nd rfl (Or.inl rfl) (pe_ifExp (pt_cmpR (op_neD hr.units) (pv 0) (pe_lst pa_nil) (nomark _))
        (pe_ix ix_list (pv 0) (pe_op op_modN (pv 1) (pe_callB call_len_seq (by rfl) ml PySem.boot_len (pa_cons (pv 0) pa_nil))) (fun _ _ => rfl)) pe_int))
      (pss_one (ps_ret (pe_lst (pa_cons (pv 2) (pa_cons (pe_op op_mul pe_int (pv 1)) (pa_cons (pe_ifExp (pt_cmpR op_ge (pv 2) (pe_op op_pow pe_int pe_int) (nomark _))
        (pe_op op_fdivW (pv 2) (pe_op op_pow pe_int pe_int)) pe_int) pa_nil)))))), ?_⟩
    refine ⟨_, rfl, Nat.zero_le _, fun l hl => ?_⟩
    have s1 : Same H (upd H l (.lst [])) := same_new hl
    refine ⟨.list (ns.map PyData.int), .list [], .lst (s1.seq hS) (dp_ints ns), .lst (SqL.of upd_same) .nil, (fine_ints ns).shaped (by decide), by decide, _, rfl, ?_⟩

    rw [eqv_nil]
    cases ns with
    | nil =>
      refine iteF ?_
      refine ⟨_, rfl, _, rfl, _, _, rfl, rfl, .inl (by decide), _, rfl, _, _, rfl, rfl, ⟨by decide, by decide, by decide⟩, _, _, rfl, rfl, _, rfl, ?_⟩
      refine iteF ⟨(by show 3 ≤ sizeLine; decide), fun p hp => ?_⟩
      have s2 := s1.trans (same_new (o := .lst [.int 1, .int (3 * (k : Int)), .int 0]) hp)
      exact q _ p s2 (s1.free hp) ⟨1, 3 * (k : Int), 0, upd_same, by omega, by omega⟩
    | cons n ns =>
      refine iteT ?_
      have hl2 : ((k : Int).fmod ((((n :: ns).map V.int).length : Nat) : Int)) < (((n :: ns).map V.int).length : Nat) ∧ 0 ≤ (k : Int).fmod ((((n :: ns).map V.int).length : Nat) : Int) :=
        ⟨(fmod_pos _ (by simp; omega)).2, (fmod_pos _ (by simp; omega)).1⟩
      obtain ⟨j, hj⟩ : ∃ j : Nat, (k : Int).fmod ((((n :: ns).map V.int).length : Nat) : Int) = (j : Int) := ⟨_, (Int.toNat_of_nonneg hl2.2).symm⟩
      have hjl : j < (n :: ns).length := by
        have h1 := hl2.1
        rw [hj] at h1
        simp at h1 ⊢
        omega
      refine ⟨_, rfl, _, rfl, _, rfl, a, _, rfl, .inl (s1.seq hS), _, _, rfl, rfl, (by simp; omega), a, _, _, .int (n :: ns)[j], rfl, rfl, s1.seq hS, ?_, ?_⟩
      · rw [hj]
        refine atI_nat ?_
        rw [List.getElem?_map, List.getElem?_eq_getElem hjl]
        rfl
      · refine ⟨_, rfl, _, rfl, _, _, rfl, rfl, .inl (by decide), _, rfl, _, _, rfl, rfl, ⟨by decide, by decide, by decide⟩, _, _, rfl, rfl, _, rfl, ?_⟩
        refine ite2 (fun _ => ?_) (fun _ => ?_)
        · refine ⟨_, rfl, _, _, rfl, rfl, ⟨by decide, by decide, by decide⟩, _, _, rfl, rfl, wide_div (b := 70) (by decide) (by decide) (by decide) (by decide), (by show 3 ≤ sizeLine; decide), fun p hp => ?_⟩
          exact q _ p (s1.trans (same_new hp)) (s1.free hp) ⟨_, 3 * (k : Int), _, upd_same, by omega, by omega⟩
        · refine ⟨(by show 3 ≤ sizeLine; decide), fun p hp => ?_⟩
          exact q _ p (s1.trans (same_new hp)) (s1.free hp) ⟨_, 3 * (k : Int), _, upd_same, by omega, by omega⟩
theorem ok_next {f : Addr} {fd : FuncData} (F : Fun K "_law_next" "_law_next" sNext f fd) : FnOk P w K mg base CX0 1 f fd ["_law_source_here", "_law_many"] spNext := by
  refine F.ok scNext (fun vs H Q E h => ?_) (fun cdv A outer s H vs Q E hr h => ?_)
  · obtain ⟨p, m, b, G, rfl, _⟩ := h
    rfl
  · obtain ⟨p, m, b, G, rfl, m1, m2, ⟨c, n, r, hp, hn, hb⟩, hB, hG, hs, q⟩ := h
    refine ⟨_, pss_cons (ps_if (pt_cmpR op_gt (pe_ix ix_list (pv 0) pe_int (fun _ _ => rfl)) pe_int (nomark _))
        (pss_cons (ps_set (i := 2) scNext.nd rfl (Or.inl rfl) (pe_op op_modN (pe_ix ix_list (pv 0) pe_int (fun _ _ => rfl)) (pv 1)))
          (pss_cons (ps_asg (pe_op op_fdivN (pe_ix ix_list (pv 0) pe_int (fun _ _ => rfl)) (pv 1)) (pg_sub (pv 0) pe_int set_list)) (pss_one (ps_ret (pv 2))))) pss_nil)
      (pss_cons (ps_asg (pe_op op_add (pe_ix ix_list (pv 0) pe_int (fun _ _ => rfl)) pe_int) (pg_sub (pv 0) pe_int set_list))
      (pss_cons (ps_set (i := 3) scNext.nd rfl (Or.inl rfl) (pe_lst (pa_cons pe_int (pa_cons pe_int (pa_cons pe_int (pa_cons pe_int (pa_cons pe_int (pa_cons pe_int (pa_cons pe_int (pa_cons pe_int pa_nil))))))))))
      (pss_cons (ps_set (i := 4) scNext.nd rfl (Or.inl rfl) (pe_ix ix_list (pe_op op_cat (pv 3) (pe_lst (pa_cons pe_int (pa_cons pe_int (pa_cons pe_int pa_nil))))) (pe_op op_modN (pe_ix ix_list (pv 0) pe_int (fun _ _ => rfl)) pe_int) (fun _ _ => rfl)))
      (pss_one (ps_ret (pe_op op_modN (pe_op op_fdivN (pe_op op_modN (pe_op op_pow (pe_op op_add (pe_op op_add (pe_op op_modN (pe_ix ix_list (pv 0) pe_int (fun _ _ => rfl)) (pv 4))
        (pe_op op_mul pe_int (pe_ix ix_list (pv 0) pe_int (fun _ _ => rfl)))) pe_int) pe_int) (pv 4)) pe_int) (pv 1))))))), ?_⟩
    refine ⟨_, rfl, p, _, _, _, rfl, rfl, SqL.of hp, atI_nat (j := 2) rfl, _, _, rfl, rfl, _, rfl, ?_⟩
    refine ite2 (fun _ => ?_) (fun _ => ?_)
    · refine ⟨_, rfl, p, _, _, _, rfl, rfl, SqL.of hp, atI_nat (j := 2) rfl, _, rfl, _, _, rfl, rfl, (by omega), ?_⟩
      refine ⟨_, rfl, p, _, _, _, rfl, rfl, SqL.of hp, atI_nat (j := 2) rfl, _, rfl, _, _, rfl, rfl, ⟨by omega, by omega⟩, _, rfl, p, _, _, 2, rfl, rfl, hp, rfl, _, rfl, ?_⟩
      have f1 := fmod_pos r m1
      exact q _ _ f1.1 f1.2 (same_at hs hG) ⟨c, n, _, upd_same, hn, by omega⟩
    · refine ⟨_, rfl, p, _, _, _, rfl, rfl, SqL.of hp, atI_nat (j := 1) rfl, _, _, rfl, rfl, _, rfl, p, _, _, 1, rfl, rfl, hp, rfl, ?_⟩
      refine ⟨(by show 8 ≤ sizeLine; decide), fun l1 hl1 => ?_⟩
      have npl1 : p ≠ l1 := ne_of_none upd_same hl1
      have hp1 : (upd (upd H p (.lst [.int c, .int (n + 1), .int r])) l1 (.lst ((primes.take 8).map V.int))) p = some (.lst [.int c, .int (n + 1), .int r]) := by
        rw [upd_ne npl1]
        exact upd_same
      refine ⟨_, rfl, (by show 3 ≤ sizeLine; decide), fun l2 hl2 => ?_⟩
      have npl2 : p ≠ l2 := ne_of_none hp1 hl2
      have nl12 : l1 ≠ l2 := ne_of_none upd_same hl2
      refine ⟨l1, l2, _, _, rfl, rfl, (by rw [upd_ne nl12]; exact upd_same), upd_same, (by show 8 + 3 ≤ sizeLine; decide), fun l3 hl3 => ?_⟩
      have hp2 : ∀ o2 : HO, (upd (upd (upd H p (.lst [.int c, .int (n + 1), .int r])) l1 (.lst ((primes.take 8).map V.int))) l2 o2) p = some (.lst [.int c, .int (n + 1), .int r]) := fun o2 => by
        rw [upd_ne npl2]
        exact hp1
      have npl3 : p ≠ l3 := ne_of_none (hp2 _) hl3
      have hp3 : ∀ o2 o3 : HO, (upd (upd (upd (upd H p (.lst [.int c, .int (n + 1), .int r])) l1 (.lst ((primes.take 8).map V.int))) l2 o2) l3 o3) p = some (.lst [.int c, .int (n + 1), .int r]) := fun o2 o3 => by
        rw [upd_ne npl3]
        exact hp2 _
      have f0 := fmod_pos (n + 1) (show (1 : Int) ≤ 11 by decide)
      obtain ⟨pr, ep, pr2, pr31⟩ := prime_at _ f0.1 f0.2
      refine ⟨_, rfl, p, _, _, _, rfl, rfl, SqL.of (hp3 _ _), atI_nat (j := 1) rfl, _, _, rfl, rfl, (by show (11 : Int) ≠ 0; decide), l3, _, _, _, rfl, rfl, SqL.of upd_same, ep, ?_⟩
      have f1 := fmod_pos c (show 1 ≤ pr by omega)
      refine ⟨_, rfl, p, _, _, _, rfl, rfl, SqL.of (hp3 _ _), atI_nat (j := 0) rfl, _, rfl, _, _, rfl, rfl, (by omega), _, rfl, p, _, _, _, rfl, rfl, SqL.of (hp3 _ _), atI_nat (j := 1) rfl, _, _, rfl, rfl, .inl (by decide), _, _, rfl, rfl,
        _, _, rfl, rfl, _, _, rfl, rfl, ⟨by decide, by decide, (by omega)⟩, _, rfl, _, _, rfl, rfl, (by omega), _, _, rfl, rfl, ⟨by decide, by decide⟩, _, rfl, _, _, rfl, rfl, (by omega), ?_⟩
      have f2 := fmod_pos ((((c.fmod pr + 7919 * (n + 1) + 1) ^ (5 : Int).toNat).fmod pr).fdiv 13) m1
      have s1 : Same G (upd H p (.lst [.int c, .int (n + 1), .int r])) := same_at hs hG
      exact q _ _ f2.1 f2.2 (((s1.trans (same_new hl1)).trans (same_new hl2)).trans (same_new hl3)) ⟨c, n + 1, r, hp3 _ _, by omega, by omega⟩
theorem ok_pick {f fN : Addr} {fd fdN : FuncData} (F : Fun K "_law_pick" "_law_pick" sPick f fd) (FN : Fun K "_law_next" "_law_next" sNext fN fdN) (bN : Binds K fdN ["_law_source_here", "_law_many"] []) (gN : mg "_law_next" = some (.ref fN)) (ml : mg "len" = none) :
    FnOk P w K mg base CX0 2 f fd ["_law_source_here", "_law_items"] spPick := by
  have GN : FnOk P w K mg base CX0 1 fN fdN ["_law_source_here", "_law_many"] spNext := ok_next FN
  refine F.ok scPick (fun vs H Q E h => ?_) (fun cdv A outer s H vs Q E hr h => ?_)
  · obtain ⟨p, l, xs, b, G, rfl, _⟩ := h
    rfl
  · obtain ⟨p, l, xs, b, G, rfl, hl, h1, h2, hS, hB, hG, hs, q⟩ := h
    refine ⟨_, pss_one (ps_ret (pe_ix ix_list (pv 1) (pe_call GN hr (by rfl) gN FN.kp bN .nil pass0 (pa_cons (pv 0) (pa_cons (pe_callB call_len_seq (by rfl) ml PySem.boot_len (pa_cons (pv 1) pa_nil)) pa_nil))) (fun _ _ => rfl))), ?_⟩
    refine ⟨_, rfl, _, rfl, _, rfl, l, xs, rfl, .inl (SqL.of (hs _ _ hl)), p, _, b, G, rfl, (by omega), (by omega), hS, hB, hG, hs, fun H1 k k0 k1 s1 S1 => ?_⟩
    obtain ⟨j, rfl⟩ : ∃ j : Nat, k = (j : Int) := ⟨_, (Int.toNat_of_nonneg k0).symm⟩
    have hj : j < xs.length := by omega
    exact ⟨l, _, _, xs[j], rfl, rfl, SqL.of (s1 _ _ hl), atI_nat (List.getElem?_eq_getElem hj), q H1 _ (List.getElem_mem hj) s1 S1⟩
end
end K03

set_option Elab.async false
set_option maxRecDepth 100000
set_option maxHeartbeats 4000000
namespace K03
open PySem L2 Nb
def topT (i : Nat) : Stmt := PySem.Challenge.pw_nextbehind_k03_methods_recognized.main.body.getD i (.Pass ⟨0, 0, 0, 0⟩)
abbrev sName : Stmt := topT 6
abbrev sNames : Stmt := topT 7
abbrev sDiff : Stmt := topT 8
abbrev sRow : Stmt := topT 9
abbrev sNameH : Stmt := topT 23
abbrev sRowH : Stmt := topT 24
abbrev sWordsH : Stmt := topT 25
theorem scRow : FnScope ["thing"] ["thing"] (defScope sRow) := ⟨rfl, rfl, rfl, by decide +kernel, rfl, by decide +kernel, by decide +kernel⟩
theorem scNameH : FnScope ["_law_thing", "_law_sign"] ["_law_thing"] (defScope sNameH) := ⟨rfl, rfl, rfl, by decide +kernel, rfl, by decide +kernel, by decide +kernel⟩
theorem scRowH : FnScope ["_law_thing", "_law_item"] ["_law_thing"] (defScope sRowH) := ⟨rfl, rfl, rfl, by decide +kernel, rfl, by decide +kernel, by decide +kernel⟩
theorem scName : FnScope ["thing", "letter"] ["thing"] (defScope sName) := ⟨rfl, rfl, rfl, by decide +kernel, rfl, by decide +kernel, by decide +kernel⟩
theorem scNames : FnScope ["thing", "item"] ["thing"] (defScope sNames) := ⟨rfl, rfl, rfl, by decide +kernel, rfl, by decide +kernel, by decide +kernel⟩
theorem scDiff : FnScope ["thing"] ["thing"] (defScope sDiff) := ⟨rfl, rfl, rfl, by decide +kernel, rfl, by decide +kernel, by decide +kernel⟩
section
variable {P : Program} {w : World} {K : PySem.W.Frag} {mg : Str → Option Value} {base : Heap}
theorem ok_name {f : Addr} {fd : FuncData} (F : Fun K "is_name" "is_name" sName f fd) (T : NamesTxt mg) {t8 : Tok} (m8 : mg "_LONGEST_NAME" = some (.int 8 t8)) : FnOk P w K mg base CX0 1 f fd ["thing"] (spName K) := by
  refine F.ok scName (fun vs H Q E h => ?_) (fun cdv A outer s H vs Q E hr h => ?_)
  · obtain ⟨x, rfl, _⟩ := h
    rfl
  · obtain ⟨x, rfl, hx, q⟩ := h
    refine ⟨_, pss_cons (ps_if (PW.pt (pw_or (pt_not (pt_val (pe_callB call_isi (by rfl) T.isi (by decide +kernel) (pa_cons (pv 0) (pa_cons (pe_bltn (v := .ty "str") (by rfl) T.str (by decide +kernel) rfl) pa_nil)))))
        (pw_or1 (pt_not (pt_chain op_le op_le pe_int (pe_callB call_len_str (by rfl) T.len PySem.boot_len (pa_cons (pv 0) pa_nil)) (pe_glob (v := .int 8) (by rfl) m8 ⟨_, rfl⟩)))))) (pss_one (ps_ret pe_bl)) pss_nil)
      (pss_one (ps_ret (pe_callB (cr_all rfl) (by rfl) T.all (by decide +kernel) (pa_cons (pe_lc (own := [("letter", 1)]) (g := gName 1) (tt := tYes) rfl scName.nd (pi_str (pv 0))
        (blkOk_by (N := ["thing", "letter"]) (sc := defScope sName) (by decide +kernel)) (fun _ _ _ _ _ => pg_name (i := 1) scName.nd rfl (Or.inl rfl)) (fun _ _ _ _ _ => pts_nil)
        (fun _ _ _ _ _ => pe_chain op_le_str op_le_str pe_str (pv 1) pe_str)) pa_nil)))), ?_⟩
    rcases hx with ⟨z, rfl, hz, _⟩ | ⟨hno, ty, hty, hk⟩
    · refine ⟨_, rfl, _, _, .type "str", _, true, rfl, .ty _, .base (.str z), kit_ty (by decide +kernel), _, rfl, ?_⟩
      refine iteF ⟨_, rfl, z, rfl, Nat.le_of_lt (small1000 hz), ?_⟩
      refine ⟨_, _, rfl, rfl, _, rfl, ?_⟩
      have big : ∀ b : Bool, isNm z = ((decide ((1 : Int) ≤ (z.length : Int)) && decide ((z.length : Int) ≤ 8)) && z.cps.toList.all letterOk) := fun _ => rfl
      by_cases h1 : (1 : Int) ≤ (z.length : Int)
      · rw [decide_eq_true h1]
        refine iteT ?_
        refine ⟨_, _, rfl, rfl, _, rfl, ?_⟩
        by_cases h8 : (z.length : Int) ≤ 8
        · rw [decide_eq_true h8]
          refine iteF ?_
          refine ⟨_, rfl, z, rfl, fun D hD => ?_⟩
          refine lc_str (x := z) (fun i H' => Same H H' ∧ H' D = some (.lst (((z.cps.toList.take i).map letterOk).map V.bl))) ⟨same_new hD, upd_same⟩ (fun i c H' hc ⟨s1, eD⟩ => ?_) (fun H' ⟨s1, eD⟩ => ?_)
          · refine ⟨rfl, ?_⟩
            have hil : i < z.cps.toList.length := (List.getElem?_eq_some_iff.mp hc).1
            have hzl : z.cps.toList.length = z.length := Array.length_toList
            have next : (((z.cps.toList.take i).map letterOk).map V.bl) ++ [V.bl (letterOk c)] = (((z.cps.toList.take (i + 1)).map letterOk).map V.bl) := by
              rw [List.take_add_one, hc]
              simp
            have sm : (((z.cps.toList.take i).map letterOk).map V.bl).length < sizeLine := by
              rw [List.length_map, List.length_map, List.length_take]
              exact Nat.lt_of_le_of_lt (Nat.min_le_left _ _) (small1000 (by omega))
            refine ⟨_, rfl, _, _, rfl, rfl, _, rfl, ?_⟩
            by_cases ha : [c] < lowA
            · rw [decide_eq_true (show ((⟨#[c]⟩ : Str).cps.toList < ("a" : Str).cps.toList) from ha)]
              refine iteF ⟨_, eD, sm, same_at s1 hD, ?_⟩
              have e : letterOk c = false := by
                unfold letterOk
                rw [decide_eq_true ha]
                rfl
              rw [← next, e]
              exact upd_same
            · rw [decide_eq_false (show ¬ ((⟨#[c]⟩ : Str).cps.toList < ("a" : Str).cps.toList) from ha)]
              refine iteT ⟨_, _, rfl, rfl, _, eD, sm, same_at s1 hD, ?_⟩
              have e : letterOk c = !decide (lowZ < [c]) := by
                unfold letterOk
                rw [decide_eq_false ha]
                rfl
              rw [← next, e]
              exact upd_same
          · refine ⟨D, _, rfl, SqL.of eD, ?_⟩
            have e : (((z.cps.toList.take z.cps.toList.length).map letterOk).all id) = isNm z := by
              rw [List.take_length]
              unfold isNm
              rw [decide_eq_true h1, decide_eq_true h8]
              simp [List.all_map]
            rw [e]
            exact q H' s1
        · rw [decide_eq_false h8]
          refine iteT ?_
          have e : nameV (.str z) = false := by
            show isNm z = false
            unfold isNm
            rw [decide_eq_false h8]
            simp
          rw [← e]
          exact q H (Same.refl H)
      · rw [decide_eq_false h1]
        refine iteF ⟨_, rfl, ?_⟩
        refine iteT ?_
        have e : nameV (.str z) = false := by
          show isNm z = false
          unfold isNm
          rw [decide_eq_false h1]
          simp
        rw [← e]
        exact q H (Same.refl H)
    · refine ⟨_, rfl, _, _, .type ty, _, false, rfl, .ty _, hty, kit_ty hk, _, rfl, ?_⟩
      refine iteT ?_
      have e : nameV x = false := by
        cases x with
        | str z => exact absurd rfl (hno z)
        | _ => rfl
      rw [← e]
      exact q H (Same.refl H)
theorem ok_names {f fN : Addr} {fd fdN : FuncData} (F : Fun K "are_names" "are_names" sNames f fd) (T : NamesTxt mg) (FN : Fun K "is_name" "is_name" sName fN fdN) (bN : Binds K fdN ["thing"] []) (gN : mg "is_name" = some (.ref fN))
    {t8 : Tok} (m8 : mg "_LONGEST_NAME" = some (.int 8 t8)) : FnOk P w K mg base CX0 2 f fd ["thing"] (spOf K namesV) := by
  have GN : FnOk P w K mg base CX0 1 fN fdN ["thing"] (spName K) := ok_name FN T m8
  refine F.ok scNames (fun vs H Q E h => ?_) (fun cdv A outer s H vs Q E hr h => ?_)
  · obtain ⟨x, rfl, _⟩ := h
    rfl
  · obtain ⟨x, rfl, hx, q⟩ := h
    refine ⟨_, pss_one (ps_ret (pe_and (pe_callB call_isi (by rfl) T.isi (by decide +kernel) (pa_cons (pv 0) (pa_cons (pe_bltn (v := .ty "tuple") (by rfl) T.tup (by decide +kernel) rfl) pa_nil)))
      (pe_one (pe_callB (cr_all rfl) (by rfl) T.all (by decide +kernel) (pa_cons (pe_lc (own := [("item", 1)]) (g := gName 1) (tt := tYes) rfl scNames.nd (pi_tup (pv 0))
        (blkOk_by (N := ["thing", "item"]) (sc := defScope sNames) (by decide +kernel)) (fun _ _ _ _ _ => pg_name (i := 1) scNames.nd rfl (Or.inl rfl)) (fun _ _ _ _ _ => pts_nil)
        (fun _ _ _ _ _ => pe_call GN hr (by rfl) gN FN.kp bN .nil pass0 (pa_cons (pv 1) pa_nil))) pa_nil))))), ?_⟩
    rcases hx with ⟨a, xs, rfl, ha, hl, hi⟩ | ⟨ht, ty, hty, hk⟩
    · refine ⟨_, rfl, _, _, .type "tuple", _, true, rfl, .ty _, rd_ty ha, kit_ty (by decide +kernel), _, rfl, ?_⟩
      refine iteT ⟨_, rfl, a, rfl, ⟨_, (.inl ha : SqT K H a xs)⟩, fun D hD => ?_⟩
      refine lc_tup (K := K) (a := a) (xs := xs) (fun i H' => Same H H' ∧ H' D = some (.lst (((xs.take i).map nameV).map V.bl))) ⟨same_new hD, upd_same⟩ (fun i H' _ ⟨s1, _⟩ => (.inl (rd_same s1 ha))) (fun i y H' hy ⟨s1, eD⟩ => ?_) (fun H' ⟨s1, eD⟩ => ?_)
      · refine ⟨rfl, _, rfl, y, rfl, known_same s1 (hi y (List.mem_of_getElem? hy)).1, fun H2 s2 => ?_⟩
        refine ⟨_, s2 _ _ eD, ?_, same_at (s1.trans s2) hD, ?_⟩
        · rw [List.length_map, List.length_map, List.length_take]
          exact Nat.lt_of_le_of_lt (Nat.min_le_right _ _) (small1000 hl)
        · rw [upd_same, List.take_add_one, hy]
          simp
      · refine ⟨D, _, rfl, SqL.of eD, ?_⟩
        have e : ((xs.take xs.length).map nameV).all id = namesV H (.ref a) := by
          unfold namesV
          rw [tupOf_at ha, List.take_length]
          simp [List.all_map]
        rw [e]
        exact q H' s1
    · refine ⟨_, rfl, _, _, .type ty, _, false, rfl, .ty _, hty, kit_ty hk, _, rfl, ?_⟩
      refine iteF ?_
      have e : namesV H x = false := by
        unfold namesV
        rw [ht _ (Same.refl _)]
      rw [← e]
      exact q H (Same.refl H)
theorem ok_diff {f fN fA : Addr} {fd fdN fdA : FuncData} (F : Fun K "are_different_names" "are_different_names" sDiff f fd) (T : NamesTxt mg) (FN : Fun K "is_name" "is_name" sName fN fdN) (bN : Binds K fdN ["thing"] []) (gN : mg "is_name" = some (.ref fN))
    (FA : Fun K "are_names" "are_names" sNames fA fdA) (bA : Binds K fdA ["thing"] []) (gA : mg "are_names" = some (.ref fA))
    {t8 : Tok} (m8 : mg "_LONGEST_NAME" = some (.int 8 t8)) : FnOk P w K mg base CX0 3 f fd ["thing"] (spOf K diffOf) := by
  have GA : FnOk P w K mg base CX0 2 fA fdA ["thing"] (spOf K namesV) := ok_names FA T FN bN gN m8
  refine F.ok scDiff (fun vs H Q E h => ?_) (fun cdv A outer s H vs Q E hr h => ?_)
  · obtain ⟨x, rfl, _⟩ := h
    rfl
  · obtain ⟨x, rfl, hx, q⟩ := h
    refine ⟨_, pss_one (ps_ret (pe_and (pe_call GA hr (by rfl) gA FA.kp bA .nil pass0 (pa_cons (pv 0) pa_nil))
      (pe_one (pe_cmpR op_eq (pe_manyS (by rfl) T.len (by rfl) T.set (pv 0)) (pe_callB call_len_seq (by rfl) T.len PySem.boot_len (pa_cons (pv 0) pa_nil)) (nomark _))))), ?_⟩
    refine ⟨_, rfl, x, rfl, hx, fun H' s1 => ?_⟩
    refine ⟨_, rfl, ?_⟩
    rcases hx with ⟨a, xs, rfl, ha, hl, hi⟩ | ⟨ht, ty, hty, hk⟩
    · have e1 : namesV H (.ref a) = xs.all nameV := by
        unfold namesV
        rw [tupOf_at ha]
      have e2 : diffOf H (.ref a) = diffV xs := by
        unfold diffOf
        rw [tupOf_at ha]
      rw [e1]
      by_cases hn : xs.all nameV = true
      · rw [hn]
        refine iteT ⟨_, rfl, a, strsOf xs, rfl, ?_, ?_, _, rfl, a, xs, rfl, .inr ((.inl (rd_same s1 ha))), rfl, ?_⟩
        · rw [← strs_map hn]
          exact (.inl (rd_same s1 ha))
        · have : (strsOf xs).length ≤ xs.length := List.length_filterMap_le ..
          omega
        · have e3 : decide (V.int ((seen (strsOf xs)).length : Nat) = V.int (xs.length : Nat)) = diffOf H (.ref a) := by
            rw [e2]
            unfold diffV
            rw [hn, Bool.true_and, Bool.eq_iff_iff]
            simp
          show Q (.bl (decide (V.int ((seen (strsOf xs)).length : Nat) = V.int (xs.length : Nat)))) H'
          rw [e3]
          exact q H' s1
      · have hf : xs.all nameV = false := by simpa using hn
        rw [hf]
        refine iteF ?_
        have e3 : diffOf H (.ref a) = false := by
          rw [e2]
          unfold diffV
          rw [hf]
          rfl
        rw [← e3]
        exact q H' s1
    · have e1 : namesV H x = false := by
        unfold namesV
        rw [ht _ (Same.refl _)]
      have e2 : diffOf H x = false := by
        unfold diffOf
        rw [ht _ (Same.refl _)]
      rw [e1]
      refine iteF ?_
      rw [← e2]
      exact q H' s1
theorem ok_row {f fD : Addr} {fd fdD : FuncData} (F : Fun K "is_row" "is_row" sRow f fd) (T : NamesTxt mg) (FD : Fun K "are_different_names" "are_different_names" sDiff fD fdD) (bD : Binds K fdD ["thing"] []) (gD : mg "are_different_names" = some (.ref fD))
    (GD : FnOk P w K mg base CX0 3 fD fdD ["thing"] (spOf K diffOf)) {t4 : Tok} (m4 : mg "_LONGEST_ROW" = some (.int 4 t4)) : FnOk P w K mg base CX0 4 f fd ["thing"] (spOf K rowV) := by
  refine F.ok scRow (fun vs H Q E h => ?_) (fun cdv A outer s H vs Q E hr h => ?_)
  · obtain ⟨x, rfl, _⟩ := h
    rfl
  · obtain ⟨x, rfl, hx, q⟩ := h
    refine ⟨_, pss_one (ps_ret (pe_and (pe_call GD hr (by rfl) gD FD.kp bD .nil pass0 (pa_cons (pv 0) pa_nil))
      (pe_one (pe_cmpR op_le (pe_callB call_len_seq (by rfl) T.len PySem.boot_len (pa_cons (pv 0) pa_nil)) (pe_glob (v := .int 4) (by rfl) m4 ⟨_, rfl⟩) (nomark _))))), ?_⟩
    refine ⟨_, rfl, x, rfl, hx, fun H' s1 => ?_⟩
    refine ⟨_, rfl, ?_⟩
    rcases hx with ⟨a, xs, rfl, ha, hl, hi⟩ | ⟨ht, ty, hty, hk⟩
    · have e1 : diffOf H (.ref a) = diffV xs := by
        unfold diffOf
        rw [tupOf_at ha]
      have e2 : rowV H (.ref a) = (diffV xs && decide ((xs.length : Int) ≤ 4)) := by
        unfold rowV
        rw [tupOf_at ha]
      rw [e1]
      cases hd : diffV xs with
      | true =>
        refine iteT ⟨_, rfl, a, xs, rfl, .inr ((.inl (rd_same s1 ha))), _, _, rfl, rfl, ?_⟩
        have e3 : rowV H (.ref a) = decide ((xs.length : Int) ≤ 4) := by
          rw [e2, hd, Bool.true_and]
        show Q (.bl (decide ((xs.length : Int) ≤ 4))) H'
        rw [← e3]
        exact q H' s1
      | false =>
        refine iteF ?_
        have e3 : rowV H (.ref a) = false := by
          rw [e2, hd]
          rfl
        rw [← e3]
        exact q H' s1
    · have e1 : diffOf H x = false := by
        unfold diffOf
        rw [ht _ (Same.refl _)]
      have e2 : rowV H x = false := by
        unfold rowV
        rw [ht _ (Same.refl _)]
      rw [e1]
      refine iteF ?_
      rw [← e2]
      exact q H' s1
theorem ok_nameH {f : Addr} {fd : FuncData} (F : Fun K "_law_is_name_here" "_law_is_name_here" sNameH f fd) (T : NamesTxt mg) : FnOk P w K mg base CX0 1 f fd ["_law_thing"] (spName K) := by
  refine F.ok scNameH (fun vs H Q E h => ?_) (fun cdv A outer s H vs Q E hr h => ?_)
  · obtain ⟨x, rfl, _⟩ := h
    rfl
  · obtain ⟨x, rfl, hx, q⟩ := h
    refine ⟨_, pss_cons (ps_if (PW.pt (pw_or (pt_not (pt_val (pe_callB call_isi (by rfl) T.isi (by decide +kernel) (pa_cons (pv 0) (pa_cons (pe_bltn (v := .ty "str") (by rfl) T.str (by decide +kernel) rfl) pa_nil)))))
        (pw_or1 (pt_not (pt_chain op_le op_le pe_int (pe_callB call_len_str (by rfl) T.len PySem.boot_len (pa_cons (pv 0) pa_nil)) pe_int))))) (pss_one (ps_ret pe_bl)) pss_nil)
      (pss_one (ps_ret (pe_cmpR (op_eqD hr.units) (pe_lc (own := [("_law_sign", 1)]) (g := gName 1) rfl scNameH.nd (pi_str (pv 0))
        (blkOk_by (N := ["_law_thing", "_law_sign"]) (sc := defScope sNameH) (by decide +kernel)) (fun _ _ _ _ _ => pg_name (i := 1) scNameH.nd rfl (Or.inl rfl)) (fun _ _ _ _ _ => pts_one (pt_not (pt_chain op_le_str op_le_str pe_str (pv 1) pe_str)))
        (fun _ _ _ _ _ => pv 1)) (pe_lst pa_nil) (nomark _)))), ?_⟩
    rcases hx with ⟨z, rfl, hz, hzo⟩ | ⟨hno, ty, hty, hk⟩
    · refine ⟨_, rfl, _, _, .type "str", _, true, rfl, .ty _, .base (.str z), kit_ty (by decide +kernel), _, rfl, ?_⟩
      refine iteF ⟨_, rfl, z, rfl, Nat.le_of_lt (small1000 hz), ?_⟩
      refine ⟨_, _, rfl, rfl, _, rfl, ?_⟩
      by_cases h1 : (1 : Int) ≤ (z.length : Int)
      · rw [decide_eq_true h1]
        refine iteT ?_
        refine ⟨_, _, rfl, rfl, _, rfl, ?_⟩
        by_cases h8 : (z.length : Int) ≤ 8
        · rw [decide_eq_true h8]
          refine iteF ?_
          refine ⟨_, rfl, z, rfl, fun D hD => ?_⟩
          refine lc_str (x := z) (fun i H' => Same H H' ∧ H' D = some (.lst (((z.cps.toList.take i).filter fun c => !letterOk c).map fun c => V.str ⟨#[c]⟩))) ⟨same_new hD, upd_same⟩ (fun i c H' hc ⟨s1, eD⟩ => ?_) (fun H' ⟨s1, eD⟩ => ?_)
          · refine ⟨rfl, ?_⟩
            have hil : i < z.cps.toList.length := (List.getElem?_eq_some_iff.mp hc).1
            have hzl : z.cps.toList.length = z.length := Array.length_toList
            have more : (z.cps.toList.take (i + 1)).filter (fun c => !letterOk c) = (z.cps.toList.take i).filter (fun c => !letterOk c) ++ (if letterOk c then [] else [c]) := by
              rw [List.take_add_one, hc]
              cases hk : letterOk c <;> simp [hk]
            have sm : (((z.cps.toList.take i).filter fun c => !letterOk c).map fun c => V.str ⟨#[c]⟩).length < sizeLine := by
              rw [List.length_map]
              have h2 := List.length_filter_le (fun c => !letterOk c) (z.cps.toList.take i)
              rw [List.length_take] at h2
              exact Nat.lt_of_le_of_lt (Nat.le_trans h2 (Nat.min_le_left _ _)) (small1000 (by omega))
            have bad : letterOk c = false → ∀ H2 : Hp, H2 = H' → (∃ acc, H2 D = some (.lst acc) ∧ acc.length < sizeLine ∧ Same H (upd H2 D (.lst (acc ++ [V.str ⟨#[c]⟩]))) ∧ (upd H2 D (.lst (acc ++ [V.str ⟨#[c]⟩]))) D = some (.lst (((z.cps.toList.take (i + 1)).filter fun c => !letterOk c).map fun c => V.str ⟨#[c]⟩))) := fun e H2 e2 => by
              subst e2
              refine ⟨_, eD, sm, same_at s1 hD, ?_⟩
              rw [upd_same, more, e]
              simp
            refine ⟨_, rfl, _, _, rfl, rfl, _, rfl, ?_⟩
            by_cases ha : [c] < lowA
            · rw [decide_eq_true (show ((⟨#[c]⟩ : Str).cps.toList < ("a" : Str).cps.toList) from ha)]
              refine iteF ⟨_, rfl, ?_⟩
              refine iteT ⟨_, rfl, bad ?_ _ rfl⟩
              unfold letterOk
              rw [decide_eq_true ha]
              rfl
            · rw [decide_eq_false (show ¬ ((⟨#[c]⟩ : Str).cps.toList < ("a" : Str).cps.toList) from ha)]
              refine iteT ⟨_, _, rfl, rfl, _, rfl, ?_⟩
              by_cases hzz : lowZ < [c]
              · rw [decide_eq_true (show (("z" : Str).cps.toList < (⟨#[c]⟩ : Str).cps.toList) from hzz)]
                refine iteT ⟨_, rfl, bad ?_ _ rfl⟩
                unfold letterOk
                rw [decide_eq_true hzz]
                simp
              · rw [decide_eq_false (show ¬ (("z" : Str).cps.toList < (⟨#[c]⟩ : Str).cps.toList) from hzz)]
                refine iteF ⟨s1, ?_⟩
                have e : letterOk c = true := by
                  unfold letterOk
                  rw [decide_eq_false ha, decide_eq_false hzz]
                  rfl
                rw [eD, more, e]
                simp
          · refine ⟨Nat.zero_le _, fun D2 hD2 => ?_⟩
            have s2 : Same H' (upd H' D2 (.lst [])) := same_new hD2
            obtain ⟨ds, d1, d2, d3⟩ := dps (K := K) (H := H') (xs := ((z.cps.toList.take z.cps.toList.length).filter fun c => !letterOk c).map fun c => V.str ⟨#[c]⟩) (fun x hx => by
              obtain ⟨c, hc, rfl⟩ := List.mem_map.mp hx
              have hcz : c ∈ z.cps.toList := List.mem_of_mem_take (List.mem_filter.mp hc).1
              refine ⟨_, .str _, (fine_str ?_).mono (by decide)⟩
              unfold PyData.strOk at hzo ⊢
              rw [Array.all_eq_true_iff_forall_mem] at hzo
              have h3 := hzo c (by simpa using hcz)
              simpa using h3)
            refine ⟨.list ds, .list [], .lst (s2.seq (SqL.of eD)) (dp_sames s2 ds _ d1), .lst (SqL.of upd_same) .nil, (fine_list d2).shaped (by decide), by decide, ?_⟩
            have e : PyData.eqv (.list ds) (.list []) = nameV (.str z) := by
              rw [eqv_nil, d3]
              show _ = isNm z
              unfold isNm
              rw [decide_eq_true h1, decide_eq_true h8, List.take_length, ← all_filter letterOk z.cps.toList]
              cases (z.cps.toList.filter fun c => !letterOk c) <;> rfl
            rw [e]
            exact q _ (s1.trans s2)
        · rw [decide_eq_false h8]
          refine iteT ?_
          have e : nameV (.str z) = false := by
            show isNm z = false
            unfold isNm
            rw [decide_eq_false h8]
            simp
          rw [← e]
          exact q H (Same.refl H)
      · rw [decide_eq_false h1]
        refine iteF ⟨_, rfl, ?_⟩
        refine iteT ?_
        have e : nameV (.str z) = false := by
          show isNm z = false
          unfold isNm
          rw [decide_eq_false h1]
          simp
        rw [← e]
        exact q H (Same.refl H)
    · refine ⟨_, rfl, _, _, .type ty, _, false, rfl, .ty _, hty, kit_ty hk, _, rfl, ?_⟩
      refine iteT ?_
      have e : nameV x = false := by
        cases x with
        | str z => exact absurd rfl (hno z)
        | _ => rfl
      rw [← e]
      exact q H (Same.refl H)
theorem ok_rowH {f fN : Addr} {fd fdN : FuncData} (F : Fun K "_law_is_row_here" "_law_is_row_here" sRowH f fd) (T : NamesTxt mg) (FN : Fun K "_law_is_name_here" "_law_is_name_here" sNameH fN fdN) (bN : Binds K fdN ["_law_thing"] []) (gN : mg "_law_is_name_here" = some (.ref fN)) :
    FnOk P w K mg base CX0 2 f fd ["_law_thing"] (spOf K rowV) := by
  have GN : FnOk P w K mg base CX0 1 fN fdN ["_law_thing"] (spName K) := ok_nameH FN T
  refine F.ok scRowH (fun vs H Q E h => ?_) (fun cdv A outer s H vs Q E hr h => ?_)
  · obtain ⟨x, rfl, _⟩ := h
    rfl
  · obtain ⟨x, rfl, hx, q⟩ := h
    refine ⟨_, pss_cons (ps_if (PW.pt (pw_or (pt_not (pt_val (pe_callB call_isi (by rfl) T.isi (by decide +kernel) (pa_cons (pv 0) (pa_cons (pe_bltn (v := .ty "tuple") (by rfl) T.tup (by decide +kernel) rfl) pa_nil)))))
        (pw_or1 (pt_cmpR op_gt (pe_callB call_len_seq (by rfl) T.len PySem.boot_len (pa_cons (pv 0) pa_nil)) pe_int (nomark _))))) (pss_one (ps_ret pe_bl)) pss_nil)
      (pss_one (ps_ret (pe_and (pe_cmpR (op_eqD hr.units) (pe_lc (own := [("_law_item", 1)]) (g := gName 1) rfl scRowH.nd (pi_tup (pv 0))
        (blkOk_by (N := ["_law_thing", "_law_item"]) (sc := defScope sRowH) (by decide +kernel)) (fun _ _ _ _ _ => pg_name (i := 1) scRowH.nd rfl (Or.inl rfl))
        (fun _ _ _ _ _ => pts_one (pt_not (pt_val (pe_call GN hr (by rfl) gN FN.kp bN .nil pass0 (pa_cons (pv 1) pa_nil)))))
        (fun _ _ _ _ _ => pv 1)) (pe_lst pa_nil) (nomark _)) (pe_one (pe_cmpR op_eq (pe_manyS (by rfl) T.len (by rfl) T.set (pv 0)) (pe_callB call_len_seq (by rfl) T.len PySem.boot_len (pa_cons (pv 0) pa_nil)) (nomark _)))))), ?_⟩
    rcases hx with ⟨a, xs, rfl, ha, hl, hi⟩ | ⟨ht, ty, hty, hk⟩
    · refine ⟨_, rfl, _, _, .type "tuple", _, true, rfl, .ty _, rd_ty ha, kit_ty (by decide +kernel), _, rfl, ?_⟩
      refine iteF ⟨_, rfl, a, xs, rfl, .inr ((.inl ha)), _, _, rfl, rfl, _, rfl, ?_⟩
      have e2 : rowV H (.ref a) = (diffV xs && decide ((xs.length : Int) ≤ 4)) := by
        unfold rowV
        rw [tupOf_at ha]
      refine ite2 (fun h4 => ?_) (fun h4 => ?_)
      · have h5 : (4 : Int) < (xs.length : Int) := of_decide_eq_true h4
        have e3 : rowV H (.ref a) = false := by
          rw [e2, decide_eq_false (by omega), Bool.and_false]
        rw [← e3]
        exact q H (Same.refl H)
      · have h5 : (xs.length : Int) ≤ 4 := by
          have : ¬ (4 : Int) < (xs.length : Int) := fun z => h4 (decide_eq_true z)
          omega
        have e3 : rowV H (.ref a) = diffV xs := by
          rw [e2, decide_eq_true h5, Bool.and_true]
        refine ⟨_, rfl, a, rfl, ⟨_, (.inl ha : SqT K H a xs)⟩, fun D hD => ?_⟩
        refine lc_tup (K := K) (a := a) (xs := xs) (fun i H' => Same H H' ∧ H' D = some (.lst ((xs.take i).filter fun x => !nameV x))) ⟨same_new hD, upd_same⟩ (fun i H' _ ⟨s1, _⟩ => (.inl (rd_same s1 ha))) (fun i y H' hy ⟨s1, eD⟩ => ?_) (fun H' ⟨s1, eD⟩ => ?_)
        · refine ⟨rfl, _, rfl, y, rfl, known_same s1 (hi y (List.mem_of_getElem? hy)).1, fun H2 s2 => ?_⟩
          have more : (xs.take (i + 1)).filter (fun x => !nameV x) = (xs.take i).filter (fun x => !nameV x) ++ (if nameV y then [] else [y]) := by
            rw [List.take_add_one, hy]
            cases hk : nameV y <;> simp [hk]
          refine ⟨_, rfl, ?_⟩
          cases hk : nameV y with
          | true =>
            refine iteF ⟨s1.trans s2, ?_⟩
            rw [s2 _ _ eD, more, hk]
            simp
          | false =>
            refine iteT ⟨_, rfl, _, s2 _ _ eD, ?_, same_at (s1.trans s2) hD, ?_⟩
            · have h2 := List.length_filter_le (fun x => !nameV x) (xs.take i)
              rw [List.length_take] at h2
              exact Nat.lt_of_le_of_lt (Nat.le_trans h2 (Nat.min_le_right _ _)) (small1000 hl)
            · rw [upd_same, more, hk]
              simp
        · refine ⟨Nat.zero_le _, fun D2 hD2 => ?_⟩
          have s2 : Same H' (upd H' D2 (.lst [])) := same_new hD2
          obtain ⟨ds, d1, d2, d3⟩ := dps (K := K) (H := H') (xs := (xs.take xs.length).filter fun x => !nameV x) (fun x hx => by
            have hxx : x ∈ xs := List.mem_of_mem_take (List.mem_filter.mp hx).1
            exact (item_same s1 (hi x hxx)).2)
          refine ⟨.list ds, .list [], .lst (s2.seq (SqL.of eD)) (dp_sames s2 ds _ d1), .lst (SqL.of upd_same) .nil, (fine_list d2).shaped (by decide), by decide, _, rfl, ?_⟩
          have e : PyData.eqv (.list ds) (.list []) = xs.all nameV := by
            rw [eqv_nil, d3, List.take_length]
            exact all_filter nameV xs
          rw [e]
          have s3 := s1.trans s2
          by_cases hn : xs.all nameV = true
          · rw [hn]
            refine iteT ⟨_, rfl, a, strsOf xs, rfl, ?_, ?_, _, rfl, a, xs, rfl, .inr ((.inl (rd_same s3 ha))), rfl, ?_⟩
            · rw [← strs_map hn]
              exact (.inl (rd_same s3 ha))
            · have : (strsOf xs).length ≤ xs.length := List.length_filterMap_le ..
              omega
            · have e4 : decide (V.int ((seen (strsOf xs)).length : Nat) = V.int (xs.length : Nat)) = rowV H (.ref a) := by
                rw [e3]
                unfold diffV
                rw [hn, Bool.true_and, Bool.eq_iff_iff]
                simp
              show Q (.bl (decide (V.int ((seen (strsOf xs)).length : Nat) = V.int (xs.length : Nat)))) _
              rw [e4]
              exact q _ s3
          · have hf : xs.all nameV = false := by simpa using hn
            rw [hf]
            refine iteF ?_
            have e4 : rowV H (.ref a) = false := by
              rw [e3]
              unfold diffV
              rw [hf]
              rfl
            rw [← e4]
            exact q _ s3
    · refine ⟨_, rfl, _, _, .type ty, _, false, rfl, .ty _, hty, kit_ty hk, _, rfl, ?_⟩
      refine iteT ?_
      have e : rowV H x = false := by
        unfold rowV
        rw [ht _ (Same.refl _)]
      rw [← e]
      exact q H (Same.refl H)
end
end K03

set_option Elab.async false
set_option maxRecDepth 100000
set_option maxHeartbeats 4000000
namespace Nb
open PySem L2
/-- a thing that the law asks: data, or an empty dict -/
def Cl (H : Hp) (x : V) (d : PyData) : Prop := Td H 6 x d ∨ d = .dict [] ∧ ∃ a, x = .ref a ∧ H a = some (.dK [])
theorem cl_same {H H' : Hp} (s : Same H H') {x : V} {d : PyData} (h : Cl H x d) : Cl H' x d := by
  rcases h with h | ⟨h1, a, h2, h3⟩
  · exact .inl (td_same s h)
  · exact .inr ⟨h1, a, h2, s _ _ h3⟩
def spD (f : PyData → Bool) : Sp := fun vs H Q _ => ∃ (x : V) (d : PyData), vs = [x] ∧ Td H 6 x d ∧ ∀ H', Same H H' → Q (.bl (f d)) H'
def spM : Sp := fun vs H Q _ => ∃ (x : V) (d : PyData), vs = [x] ∧ Cl H x d ∧ ∀ H', Same H H' → Q (.bl (methD d)) H'
theorem td_cl {K : PySem.W.Frag} {H : Hp} {x : V} {d : PyData} (h : Cl H x d) : (∃ (a : Addr) (xs : List V) (ds : List PyData), x = .ref a ∧ d = .tuple ds ∧ H a = some (.tup xs) ∧ xs.length ≤ 1000 ∧ Tds H 5 xs ds) ∨
    methD d = false ∧ ∃ T, TyX K H x (.type T) ∧ kitB T "tuple" = some false := by
  rcases h with h | ⟨rfl, a, rfl, h⟩
  · cases h with
    | tup e l ts => exact .inl ⟨_, _, _, rfl, rfl, e, l, ts⟩
    | lst e l ts => exact .inr ⟨rfl, "list", .base (.lst e), by decide +kernel⟩
    | non => exact .inr ⟨rfl, "NoneType", .base .non, by decide +kernel⟩
    | bl b => exact .inr ⟨rfl, "bool", .base (.bl b), by decide +kernel⟩
    | int i => exact .inr ⟨rfl, "int", .base (.int i), by decide +kernel⟩
    | str z => exact .inr ⟨rfl, "str", .base (.str _), by decide +kernel⟩
  · exact .inr ⟨rfl, "dict", .base (.dK h), by decide +kernel⟩
end Nb
namespace K03
open PySem L2 Nb
abbrev sMeth : Stmt := topT 13
abbrev sStop : Stmt := topT 14
abbrev sWords : Stmt := topT 15
abbrev sMethH : Stmt := topT 26
theorem scMeth : FnScope ["thing", "takes", "before", "passes", "after"] ["thing"] (defScope sMeth) := ⟨rfl, rfl, rfl, by decide +kernel, rfl, by decide +kernel, by decide +kernel⟩
theorem scWords : FnScope ["thing"] ["thing"] (defScope sWords) := ⟨rfl, rfl, rfl, by decide +kernel, rfl, by decide +kernel, by decide +kernel⟩
theorem scWordsH : FnScope ["_law_thing", "_law_item"] ["_law_thing"] (defScope sWordsH) := ⟨rfl, rfl, rfl, by decide +kernel, rfl, by decide +kernel, by decide +kernel⟩
theorem scMethH : FnScope ["_law_thing"] ["_law_thing"] (defScope sMethH) := ⟨rfl, rfl, rfl, by decide +kernel, rfl, by decide +kernel, by decide +kernel⟩
structure Txt (mg : Str → Option Value) : Prop where
  names : NamesTxt mg
  len : mg "len" = none
  isinstance : mg "isinstance" = none
  tuple : mg "tuple" = none
  list : mg "list" = none
  range : mg "range" = none
  repr : mg "repr" = none
section
variable {P : Program} {w : World} {K : PySem.W.Frag} {mg : Str → Option Value} {base : Heap}
theorem ok_words {f fare_names : Addr} {fd fdN : FuncData} (F : Fun K "_are_words" "_are_words" sWords f fd) (T : Txt mg) (Fare_names : Fun K "are_names" "are_names" sNames fare_names fdN) (bare_names : Binds K fdN ["thing"] []) (gare_names : mg "are_names" = some (.ref fare_names))
    (Gare_names : FnOk P w K mg base CX0 2 fare_names fdN ["thing"] (spOf K namesV)) {t4 : Tok} (m_MOST_WORDS : mg "_MOST_WORDS" = some (.int 4 t4)) : FnOk P w K mg base CX0 3 f fd ["thing"] (spD wordsD) := by
  refine F.ok scWords (fun vs H Q E h => ?_) (fun cdv A outer s H vs Q E hr h => ?_)
  · obtain ⟨x, d, rfl, _⟩ := h
    rfl
  · obtain ⟨x, d, rfl, hx, q⟩ := h
    refine ⟨_, pss_one (ps_ret (pe_and (pe_call Gare_names hr (by rfl) gare_names Fare_names.kp bare_names .nil pass0 (pa_cons (pv 0) pa_nil)) (pe_one (pe_cmpR op_le (pe_callB call_len_seq (by rfl) T.len PySem.boot_len (pa_cons (pv 0) pa_nil)) (pe_glob (v := .int 4) (by rfl) m_MOST_WORDS ⟨_, rfl⟩) (nomark _))))), ?_⟩
    refine ⟨_, rfl, x, rfl, td_thing (by decide) hx, fun H1 s1 => ?_⟩
    rw [td_names hx]
    refine ⟨_, rfl, ?_⟩
    have back := q H1 s1
    cases hx with
    | tup e l ts =>
      rename_i a xs ds
      have e1 : namesD (.tuple ds) = ds.all nmD := rfl
      have e2 : wordsD (.tuple ds) = (ds.all nmD && decide ((ds.length : Int) ≤ 4)) := rfl
      rw [e1]
      rw [e2] at back
      cases hn : ds.all nmD with
      | true =>
        refine iteT ⟨_, rfl, a, xs, rfl, .inr (SqT.of (s1 _ _ e)), _, _, rfl, rfl, ?_⟩
        rw [hn, Bool.true_and] at back
        rw [tds_len ts]
        exact back
      | false =>
        refine iteF ?_
        rw [hn] at back
        exact back
    | lst e l ts => exact iteF back
    | non => exact iteF back
    | bl b => exact iteF back
    | int j => exact iteF back
    | str z => exact iteF back
theorem ok_wordsH {f fis_name_here : Addr} {fd fdN : FuncData} (F : Fun K "_law_is_words_here" "_law_is_words_here" sWordsH f fd) (T : Txt mg) (Fis_name_here : Fun K "_law_is_name_here" "_law_is_name_here" sNameH fis_name_here fdN) (bis_name_here : Binds K fdN ["_law_thing"] []) (gis_name_here : mg "_law_is_name_here" = some (.ref fis_name_here))
    (Gis_name_here : FnOk P w K mg base CX0 1 fis_name_here fdN ["_law_thing"] (spName K)) : FnOk P w K mg base CX0 2 f fd ["_law_thing"] (spD wordsD) := by
  refine F.ok scWordsH (fun vs H Q E h => ?_) (fun cdv A outer s H vs Q E hr h => ?_)
  · obtain ⟨x, d, rfl, _⟩ := h
    rfl
  · obtain ⟨x, d, rfl, hx, q⟩ := h
    refine ⟨_, pss_cons (ps_if (PW.pt (pw_or (pt_not (pt_val (pe_callB call_isi (by rfl) T.isinstance (by decide +kernel) (pa_cons (pv 0) (pa_cons (pe_bltn (v := .ty "tuple") (by rfl) T.tuple (by decide +kernel) rfl) pa_nil))))) (pw_or1 (pt_cmpR op_gt (pe_callB call_len_seq (by rfl) T.len PySem.boot_len (pa_cons (pv 0) pa_nil)) pe_int (nomark _))))) (pss_one (ps_ret pe_bl)) pss_nil)
        (pss_one (ps_ret (pe_cmpR (op_eqD hr.units) (pe_lc (own := [("_law_item", 1)]) (g := gName 1) rfl scWordsH.nd (pi_tup (pv 0)) (blkOk_by (N := ["_law_thing", "_law_item"]) (sc := defScope sWordsH) (by decide +kernel)) (fun _ _ _ _ _ => (pg_name (i := 1) scWordsH.nd rfl (Or.inl rfl))) (fun _ _ _ _ _ => (pts_one (pt_not (pt_val (pe_call Gis_name_here hr (by rfl) gis_name_here Fis_name_here.kp bis_name_here .nil pass0 (pa_cons (pv 1) pa_nil)))))) (fun _ _ _ _ _ => (pv 1))) (pe_lst pa_nil) (nomark _)))), ?_⟩
    cases hx with
    | tup e l ts =>
      rename_i a xs ds
      have e2 : wordsD (.tuple ds) = (ds.all nmD && decide ((ds.length : Int) ≤ 4)) := rfl
      have ld := tds_len ts
      refine ⟨_, rfl, _, _, .type "tuple", _, true, rfl, .ty _, .base (.tup e), kit_ty (by decide +kernel), _, rfl, ?_⟩
      refine iteF ⟨_, rfl, a, xs, rfl, .inr (SqT.of e), _, _, rfl, rfl, _, rfl, ?_⟩
      refine ite2 (fun h4 => ?_) (fun h4 => ?_)
      · have h5 : (4 : Int) < (xs.length : Int) := of_decide_eq_true h4
        have := q H (Same.refl H)
        rw [e2, decide_eq_false (by omega), Bool.and_false] at this
        exact this
      · have h5 : (xs.length : Int) ≤ 4 := by
          have : ¬ (4 : Int) < (xs.length : Int) := fun z => h4 (decide_eq_true z)
          omega
        rw [e2, decide_eq_true (by omega), Bool.and_true] at q
        refine ⟨_, rfl, a, rfl, ⟨_, SqT.of e⟩, fun D hD => ?_⟩
        refine lc_tup (K := K) (a := a) (xs := xs) (fun i H' => Same H H' ∧ H' D = some (.lst ((xs.take i).filter fun x => !nameV x))) ⟨same_new hD, upd_same⟩ (fun i H' _ ⟨s1, _⟩ => SqT.of (s1 _ _ e)) (fun i y H' hy ⟨s1, eD⟩ => ?_) (fun H' ⟨s1, eD⟩ => ?_)
        · obtain ⟨dy, _, ty⟩ := tds_get ts hy
          refine ⟨rfl, _, rfl, y, rfl, td_known (td_same s1 ty), fun H2 s2 => ?_⟩
          have more : (xs.take (i + 1)).filter (fun x => !nameV x) = (xs.take i).filter (fun x => !nameV x) ++ (if nameV y then [] else [y]) := by
            rw [List.take_add_one, hy]
            cases hk : nameV y <;> simp [hk]
          refine ⟨_, rfl, ?_⟩
          cases hk : nameV y with
          | true =>
            refine iteF ⟨s1.trans s2, ?_⟩
            rw [s2 _ _ eD, more, hk]
            simp
          | false =>
            refine iteT ⟨_, rfl, _, s2 _ _ eD, ?_, same_at (s1.trans s2) hD, ?_⟩
            · have h2 := List.length_filter_le (fun x => !nameV x) (xs.take i)
              rw [List.length_take] at h2
              exact small1000 (by omega)
            · rw [upd_same, more, hk]
              simp
        · refine ⟨Nat.zero_le _, fun D2 hD2 => ?_⟩
          have s2 : Same H' (upd H' D2 (.lst [])) := same_new hD2
          rw [List.take_length] at eD
          obtain ⟨es, k1⟩ := tds_ex (H := upd H' D2 (.lst [])) (n := 5) (xs := xs.filter fun x => !nameV x) (fun x hx => by
            obtain ⟨d', _, k⟩ := tds_mem ts (List.mem_filter.mp hx).1
            exact ⟨d', td_same (s1.trans s2) k⟩)
          have le : es.length ≤ 1000 := by
            rw [← tds_len k1]
            exact Nat.le_trans (List.length_filter_le _ _) (by omega)
          refine ⟨.list es, .list [], .lst (SqL.of (s2 _ _ eD)) (tds_dp k1).1, .lst (SqL.of upd_same) .nil, td_shaped (K := K) (.lst (s2 _ _ eD) (by rw [tds_len k1]; exact le) k1) (by decide), by decide, ?_⟩
          have e6 : PyData.eqv (.list es) (.list []) = ds.all nmD := by
            rw [eqv_nil, ← (tds_nms ts).1, ← all_filter nameV xs]
            cases hz : xs.filter fun x => !nameV x with
            | nil =>
              rw [hz] at k1
              cases k1
              rfl
            | cons z zs =>
              rw [hz] at k1
              cases k1
              rfl
          rw [e6]
          exact q _ (s1.trans s2)
    | lst e l ts =>
      refine ⟨_, rfl, _, _, .type "list", _, false, rfl, .ty _, .base (.lst e), kit_ty (by decide +kernel), _, rfl, ?_⟩
      exact iteT (q H (Same.refl H))
    | non =>
      refine ⟨_, rfl, _, _, .type "NoneType", _, false, rfl, .ty _, .base .non, kit_ty (by decide +kernel), _, rfl, ?_⟩
      exact iteT (q H (Same.refl H))
    | bl b =>
      refine ⟨_, rfl, _, _, .type "bool", _, false, rfl, .ty _, .base (.bl b), kit_ty (by decide +kernel), _, rfl, ?_⟩
      exact iteT (q H (Same.refl H))
    | int j =>
      refine ⟨_, rfl, _, _, .type "int", _, false, rfl, .ty _, .base (.int j), kit_ty (by decide +kernel), _, rfl, ?_⟩
      exact iteT (q H (Same.refl H))
    | str z =>
      refine ⟨_, rfl, _, _, .type "str", _, false, rfl, .ty _, .base (.str _), kit_ty (by decide +kernel), _, rfl, ?_⟩
      exact iteT (q H (Same.refl H))
def restD (p a : PyData) : Bool := match p with
  | .none => nilD a
  | p => rowD p
theorem meth_eq (t b p a : PyData) : methD (.tuple [t, b, p, a]) = (rowD t && wordsD b && wordsD a && restD p a) := by
  cases p <;> rfl
theorem meth_len {ds : List PyData} (h : ds.length ≠ 4) : methD (.tuple ds) = false := by
  match ds, h with
  | [], _ => rfl
  | [_], _ => rfl
  | [_, _], _ => rfl
  | [_, _, c], _ => cases c <;> rfl
  | [_, _, _, _], h => exact absurd rfl h
  | _ :: _ :: c :: _ :: _ :: _, _ => cases c <;> rfl
theorem nil_eqv (d : PyData) (h : wordsD d = true) : PyData.eqv d (.tuple []) = nilD d := by
  cases d with
  | tuple ds =>
    rw [eqv_nilT]
    cases ds <;> rfl
  | _ => cases h
theorem ok_meth {f fis_row fare_words : Addr} {fd fdR fdW : FuncData} (F : Fun K "is_method" "is_method" sMeth f fd) (T : Txt mg) (Fis_row : Fun K "is_row" "is_row" sRow fis_row fdR) (bis_row : Binds K fdR ["thing"] []) (gis_row : mg "is_row" = some (.ref fis_row)) (Gis_row : FnOk P w K mg base CX0 4 fis_row fdR ["thing"] (spOf K rowV))
    (Fare_words : Fun K "_are_words" "_are_words" sWords fare_words fdW) (bare_words : Binds K fdW ["thing"] []) (gare_words : mg "_are_words" = some (.ref fare_words)) (Gare_words : FnOk P w K mg base CX0 3 fare_words fdW ["thing"] (spD wordsD)) {t4 : Tok} (m_PARTS : mg "_PARTS" = some (.int 4 t4)) :
    FnOk P w K mg base CX0 5 f fd ["thing"] spM := by
  refine F.ok scMeth (fun vs H Q E h => ?_) (fun cdv A outer s H vs Q E hr h => ?_)
  · obtain ⟨x, d, rfl, _⟩ := h
    rfl
  · obtain ⟨x, d, rfl, hx, q⟩ := h
    have hr3 : Room 3 _ := hr.mono (by decide)
    refine ⟨_, pss_cons (ps_if (PW.pt (pw_or (pt_not (pt_val (pe_callB call_isi (by rfl) T.isinstance (by decide +kernel) (pa_cons (pv 0) (pa_cons (pe_bltn (v := .ty "tuple") (by rfl) T.tuple (by decide +kernel) rfl) pa_nil))))) (pw_or1 (pt_cmpR op_ne (pe_callB call_len_seq (by rfl) T.len PySem.boot_len (pa_cons (pv 0) pa_nil)) (pe_glob (v := .int 4) (by rfl) m_PARTS ⟨_, rfl⟩) (nomark _))))) (pss_one (ps_ret pe_bl)) pss_nil)
        (pss_cons (ps_asg (pv 0) (pg_tup rfl (pgs_cons (pg_name (i := 1) scMeth.nd rfl (Or.inl rfl)) (pgs_cons (pg_name (i := 2) scMeth.nd rfl (Or.inl rfl)) (pgs_cons (pg_name (i := 3) scMeth.nd rfl (Or.inl rfl)) (pgs_cons (pg_name (i := 4) scMeth.nd rfl (Or.inl rfl)) pgs_nil))))))
        (pss_cons (ps_if (PW.pt (pw_or (pt_not (pt_val (pe_call Gis_row hr (by rfl) gis_row Fis_row.kp bis_row .nil pass0 (pa_cons (pv 1) pa_nil)))) (pw_or (pt_not (pt_val (pe_call Gare_words hr3 (by rfl) gare_words Fare_words.kp bare_words .nil pass0 (pa_cons (pv 2) pa_nil)))) (pw_or1 (pt_not (pt_val (pe_call Gare_words hr3 (by rfl) gare_words Fare_words.kp bare_words .nil pass0 (pa_cons (pv 4) pa_nil)))))))) (pss_one (ps_ret pe_bl)) pss_nil)
        (pss_cons (ps_if (pt_cmpR op_isN (pv 3) pe_non (nomark _)) (pss_one (ps_ret (pe_cmpR (op_eqD hr.units) (pv 4) (pe_tup pa_nil) (nomark _)))) pss_nil)
        (pss_one (ps_ret (pe_call Gis_row hr (by rfl) gis_row Fis_row.kp bis_row .nil pass0 (pa_cons (pv 3) pa_nil))))))), ?_⟩
    rcases td_cl (K := K) hx with ⟨a, xs, ds, rfl, rfl, e, l, ts⟩ | ⟨e0, ty, hty, hk⟩
    · refine ⟨_, rfl, _, _, .type "tuple", _, true, rfl, .ty _, .base (.tup e), kit_ty (by decide +kernel), _, rfl, ?_⟩
      refine iteF ⟨_, rfl, a, xs, rfl, .inr (SqT.of e), rfl, _, rfl, ?_⟩
      by_cases h4 : xs.length = 4
      · refine iteNS (by rw [h4]; rfl) ?_
        match xs, h4, ts with
        | [x1, x2, x3, x4], _, .cons (d := d1) k1 (.cons (d := d2) k2 (.cons (d := d3) k3 (.cons (d := d4) k4 .nil))) =>
          rw [meth_eq] at q
          refine ⟨_, rfl, a, _, rfl, .inl (.inl e), rfl, x1, _, rfl, x2, _, rfl, x3, _, rfl, x4, [], rfl, rfl, ?_⟩
          refine ⟨_, rfl, x1, rfl, td_thing (by decide) k1, fun H1 s1 => ⟨_, rfl, ?_⟩⟩
          rw [td_row k1]
          have fin : ∀ H', Same H H' → ∀ b, (rowD d1 && wordsD d2 && wordsD d4 && restD d3 d4) = b → Q (.bl b) H' := fun H' s' b e' => by
            rw [← e']
            exact q H' s'
          cases h1 : rowD d1 with
          | false => exact iteT (fin _ s1 _ (by rw [h1]; rfl))
          | true =>
            refine iteF ⟨_, rfl, x2, d2, rfl, td_up (td_same s1 k2), fun H2 s2 => ⟨_, rfl, ?_⟩⟩
            cases h2 : wordsD d2 with
            | false => exact iteT (fin _ (s1.trans s2) _ (by rw [h1, h2]; rfl))
            | true =>
              refine iteF ⟨_, rfl, x4, d4, rfl, td_up (td_same (s1.trans s2) k4), fun H3 s3 => ⟨_, rfl, ?_⟩⟩
              have s13 := (s1.trans s2).trans s3
              cases h3 : wordsD d4 with
              | false => exact iteT (fin _ s13 _ (by rw [h1, h2, h3]; rfl))
              | true =>
                refine iteF ⟨_, rfl, rfl, _, rfl, ?_⟩
                have last : restD d3 d4 = (rowD d1 && wordsD d2 && wordsD d4 && restD d3 d4) := by
                  rw [h1, h2, h3]
                  rfl
                have row3 : x3 ≠ .non → rowD d3 = restD d3 d4 → ∃ (y : V), [x3] = [y] ∧ Thing K H3 y ∧ ∀ H', Same H3 H' → Q (.bl (rowV H3 y)) H' := fun _ e3 => by
                  refine ⟨x3, rfl, td_thing (by decide) (td_same s13 k3), fun H4 s4 => ?_⟩
                  rw [td_row (td_same s13 k3), e3]
                  exact fin _ (s13.trans s4) _ last.symm
                cases k3 with
                | non =>
                  refine iteT ⟨_, rfl, Nat.zero_le _, fun z hz => ?_⟩
                  have s4 := s13.trans (same_new (o := HO.tup []) hz)
                  have k5 := td_same s4 k4
                  refine ⟨d4, .tuple [], (td_dp k5).1, .tup (SqT.of upd_same) .nil, td_shaped (K := K) k5 (by decide), by decide, ?_⟩
                  rw [nil_eqv d4 h3]
                  exact fin _ s4 _ last.symm
                | bl b => exact iteF ⟨_, rfl, row3 (fun z => by cases z) rfl⟩
                | int j => exact iteF ⟨_, rfl, row3 (fun z => by cases z) rfl⟩
                | str z => exact iteF ⟨_, rfl, row3 (fun z => by cases z) rfl⟩
                | lst u v z => exact iteF ⟨_, rfl, row3 (fun z => by cases z) rfl⟩
                | tup u v z => exact iteF ⟨_, rfl, row3 (fun z => by cases z) rfl⟩
      · refine (show (if (!decide (V.int (xs.length : Nat) = V.int 4)) = true then _ else _) from ?_)
        rw [decide_eq_false (fun z => h4 (by have := V.int.inj z; omega))]
        rw [meth_len (by rw [← tds_len ts]; exact h4)] at q
        exact iteT (q H (Same.refl H))
    · refine ⟨_, rfl, _, _, .type ty, _, false, rfl, .ty _, hty, kit_ty hk, _, rfl, ?_⟩
      rw [e0] at q
      exact iteT (q H (Same.refl H))
theorem ok_methH {f fis_row_here fis_words_here : Addr} {fd fdR fdW : FuncData} (F : Fun K "_law_is_method_here" "_law_is_method_here" sMethH f fd) (T : Txt mg) (Fis_row_here : Fun K "_law_is_row_here" "_law_is_row_here" sRowH fis_row_here fdR) (bis_row_here : Binds K fdR ["_law_thing"] []) (gis_row_here : mg "_law_is_row_here" = some (.ref fis_row_here)) (Gis_row_here : FnOk P w K mg base CX0 2 fis_row_here fdR ["_law_thing"] (spOf K rowV))
    (Fis_words_here : Fun K "_law_is_words_here" "_law_is_words_here" sWordsH fis_words_here fdW) (bis_words_here : Binds K fdW ["_law_thing"] []) (gis_words_here : mg "_law_is_words_here" = some (.ref fis_words_here)) (Gis_words_here : FnOk P w K mg base CX0 2 fis_words_here fdW ["_law_thing"] (spD wordsD)) :
    FnOk P w K mg base CX0 3 f fd ["_law_thing"] spM := by
  refine F.ok scMethH (fun vs H Q E h => ?_) (fun cdv A outer s H vs Q E hr h => ?_)
  · obtain ⟨x, d, rfl, _⟩ := h
    rfl
  · obtain ⟨x, d, rfl, hx, q⟩ := h
    refine ⟨_, pss_cons (ps_if (PW.pt (pw_or (pt_not (pt_val (pe_callB call_isi (by rfl) T.isinstance (by decide +kernel) (pa_cons (pv 0) (pa_cons (pe_bltn (v := .ty "tuple") (by rfl) T.tuple (by decide +kernel) rfl) pa_nil))))) (pw_or (pt_cmpR op_ne (pe_callB call_len_seq (by rfl) T.len PySem.boot_len (pa_cons (pv 0) pa_nil)) pe_int (nomark _)) (pw_or1 (pt_not (pt_val (pe_call Gis_row_here hr (by rfl) gis_row_here Fis_row_here.kp bis_row_here .nil pass0 (pa_cons (pe_ix ix_tup (pv 0) pe_int (fun _ _ => rfl)) pa_nil)))))))) (pss_one (ps_ret pe_bl)) pss_nil)
        (pss_cons (ps_if (PW.pt (pw_or (pt_not (pt_val (pe_call Gis_words_here hr (by rfl) gis_words_here Fis_words_here.kp bis_words_here .nil pass0 (pa_cons (pe_ix ix_tup (pv 0) pe_int (fun _ _ => rfl)) pa_nil)))) (pw_or1 (pt_not (pt_val (pe_call Gis_words_here hr (by rfl) gis_words_here Fis_words_here.kp bis_words_here .nil pass0 (pa_cons (pe_ix ix_tup (pv 0) pe_int (fun _ _ => rfl)) pa_nil))))))) (pss_one (ps_ret pe_bl)) pss_nil)
        (pss_one (ps_ret (pe_ifExp (pt_cmpR op_isN (pe_ix ix_tup (pv 0) pe_int (fun _ _ => rfl)) pe_non (nomark _)) (pe_cmpR (op_eqD hr.units) (pe_ix ix_tup (pv 0) pe_int (fun _ _ => rfl)) (pe_tup pa_nil) (nomark _)) (pe_call Gis_row_here hr (by rfl) gis_row_here Fis_row_here.kp bis_row_here .nil pass0 (pa_cons (pe_ix ix_tup (pv 0) pe_int (fun _ _ => rfl)) pa_nil)))))), ?_⟩
    rcases td_cl (K := K) hx with ⟨a, xs, ds, rfl, rfl, e, l, ts⟩ | ⟨e0, ty, hty, hk⟩
    · refine ⟨_, rfl, _, _, .type "tuple", _, true, rfl, .ty _, .base (.tup e), kit_ty (by decide +kernel), _, rfl, ?_⟩
      refine iteF ⟨_, rfl, a, xs, rfl, .inr (SqT.of e), rfl, _, rfl, ?_⟩
      by_cases h4 : xs.length = 4
      · refine iteNS (by rw [h4]; rfl) ?_
        match xs, h4, ts with
        | [x1, x2, x3, x4], _, .cons (d := d1) k1 (.cons (d := d2) k2 (.cons (d := d3) k3 (.cons (d := d4) k4 .nil))) =>
          rw [meth_eq] at q
          have fin : ∀ H', Same H H' → ∀ b, (rowD d1 && wordsD d2 && wordsD d4 && restD d3 d4) = b → Q (.bl b) H' := fun H' s' b e' => by
            rw [← e']
            exact q H' s'
          refine ⟨_, rfl, a, _, _, x1, rfl, rfl, SqT.of e, atI_nat (j := 0) rfl, x1, rfl, td_thing (by decide) k1, fun H1 s1 => ⟨_, rfl, ?_⟩⟩
          rw [td_row k1]
          cases h1 : rowD d1 with
          | false => exact iteT (fin _ s1 _ (by rw [h1]; rfl))
          | true =>
            refine iteF ⟨_, rfl, a, _, _, x2, rfl, rfl, SqT.of (s1 _ _ e), atI_nat (j := 1) rfl, x2, d2, rfl, td_up (td_same s1 k2), fun H2 s2 => ⟨_, rfl, ?_⟩⟩
            cases h2 : wordsD d2 with
            | false => exact iteT (fin _ (s1.trans s2) _ (by rw [h1, h2]; rfl))
            | true =>
              refine iteF ⟨_, rfl, a, _, _, x4, rfl, rfl, SqT.of ((s1.trans s2) _ _ e), atI_nat (j := 3) rfl, x4, d4, rfl, td_up (td_same (s1.trans s2) k4), fun H3 s3 => ⟨_, rfl, ?_⟩⟩
              have s13 := (s1.trans s2).trans s3
              cases h3 : wordsD d4 with
              | false => exact iteT (fin _ s13 _ (by rw [h1, h2, h3]; rfl))
              | true =>
                refine iteF ⟨_, rfl, a, _, _, x3, rfl, rfl, SqT.of (s13 _ _ e), atI_nat (j := 2) rfl, rfl, _, rfl, ?_⟩
                have last : restD d3 d4 = (rowD d1 && wordsD d2 && wordsD d4 && restD d3 d4) := by
                  rw [h1, h2, h3]
                  rfl
                have row3 : rowD d3 = restD d3 d4 → ∃ (y : V), [x3] = [y] ∧ Thing K H3 y ∧ ∀ H', Same H3 H' → Q (.bl (rowV H3 y)) H' := fun e3 => by
                  refine ⟨x3, rfl, td_thing (by decide) (td_same s13 k3), fun H4 s4 => ?_⟩
                  rw [td_row (td_same s13 k3), e3]
                  exact fin _ (s13.trans s4) _ last.symm
                have at3 : ∃ (p : Addr) (ys : List V) (i : Int) (v : V), (V.ref a) = .ref p ∧ (V.int 2) = .int i ∧ SqT K H3 p ys ∧ atI ys i = some v ∧ v = x3 := ⟨a, _, _, x3, rfl, rfl, SqT.of (s13 _ _ e), atI_nat (j := 2) rfl, rfl⟩
                cases k3 with
                | non =>
                  refine iteT ⟨_, rfl, a, _, _, x4, rfl, rfl, SqT.of (s13 _ _ e), atI_nat (j := 3) rfl, Nat.zero_le _, fun z hz => ?_⟩
                  have s4 := s13.trans (same_new (o := HO.tup []) hz)
                  have k5 := td_same s4 k4
                  refine ⟨d4, .tuple [], (td_dp k5).1, .tup (SqT.of upd_same) .nil, td_shaped (K := K) k5 (by decide), by decide, ?_⟩
                  rw [nil_eqv d4 h3]
                  exact fin _ s4 _ last.symm
                | bl b => exact iteF ⟨_, rfl, a, _, _, _, rfl, rfl, SqT.of (s13 _ _ e), atI_nat (j := 2) rfl, row3 rfl⟩
                | int j => exact iteF ⟨_, rfl, a, _, _, _, rfl, rfl, SqT.of (s13 _ _ e), atI_nat (j := 2) rfl, row3 rfl⟩
                | str z => exact iteF ⟨_, rfl, a, _, _, _, rfl, rfl, SqT.of (s13 _ _ e), atI_nat (j := 2) rfl, row3 rfl⟩
                | lst u v z => exact iteF ⟨_, rfl, a, _, _, _, rfl, rfl, SqT.of (s13 _ _ e), atI_nat (j := 2) rfl, row3 rfl⟩
                | tup u v z => exact iteF ⟨_, rfl, a, _, _, _, rfl, rfl, SqT.of (s13 _ _ e), atI_nat (j := 2) rfl, row3 rfl⟩
      · refine (show (if (!decide (V.int (xs.length : Nat) = V.int 4)) = true then _ else _) from ?_)
        rw [decide_eq_false (fun z => h4 (by have := V.int.inj z; omega))]
        rw [meth_len (by rw [← tds_len ts]; exact h4)] at q
        exact iteT (q H (Same.refl H))
    · refine ⟨_, rfl, _, _, .type ty, _, false, rfl, .ty _, hty, kit_ty hk, _, rfl, ?_⟩
      rw [e0] at q
      exact iteT (q H (Same.refl H))
end
end K03

set_option Elab.async false
set_option maxRecDepth 100000
set_option maxHeartbeats 4000000
namespace Nb
open PySem
open L2 hiding del del_ne del_same
def stopD : PyData → Bool
  | .tuple [_, _, .none, _] => true
  | _ => false
/-- __init__(self, name) of an error: self.name = name -/
def spInit (K : PySem.W.Frag) : Sp := fun vs H Q _ => ∃ (a C : Addr) (v : V), vs = [.ref a, v] ∧ OexC K C ∧ PySem.W.findIn K (.ref C) "name" = some none ∧ H a = some (exo a C none) ∧
  ∀ dx, H dx = none → dx ≠ a → Q .non (upd (upd H dx (exd dx [("name", v)])) a (exo a C (some dx)))
def spStop (C : Addr) : Sp := fun vs H Q E => ∃ (x : V) (d : PyData), vs = [x] ∧ Cl H x d ∧ (methD d = true → ∀ H', Same H H' → Q (.bl (stopD d)) H') ∧
  (methD d = false → ∀ H' dd, Same H H' → H' dd = some (.xd [("name", .non)]) → E (.ref C) (some dd) H')
/-- what the answer is, told as data -/
def toldD (d : PyData) : PyData := if methD d = true then .bool (stopD d) else .list [.none]
def spTold : Sp := fun vs H Q _ => ∃ (x : V) (d : PyData), vs = [x] ∧ Cl H x d ∧ ∀ H' y, Same H H' → Td H' 1 y (toldD d) → Q y H'
end Nb
namespace K03
open PySem Nb
open L2 hiding del del_ne del_same
abbrev sInit : Stmt := match topT 2 with
  | .ClassDef _ _ _ body _ _ _ _ _ _ _ => body.getD 0 (.Pass ⟨0, 0, 0, 0⟩)
  | _ => .Pass ⟨0, 0, 0, 0⟩
abbrev sTold : Stmt := topT 27
theorem scInit : FnScope ["self", "name"] ["self", "name"] (defScope sInit) := ⟨rfl, rfl, rfl, by decide +kernel, rfl, by decide +kernel, by decide +kernel⟩
theorem scStop : FnScope ["method"] ["method"] (defScope sStop) := ⟨rfl, rfl, rfl, by decide +kernel, rfl, by decide +kernel, by decide +kernel⟩
theorem scTold : FnScope ["_law_thing", "_law_caught", "_law_found", "error"] ["_law_thing"] (defScope sTold) := ⟨rfl, rfl, rfl, by decide +kernel, rfl, by decide +kernel, by decide +kernel⟩
section
variable {P : Program} {w : World} {K : PySem.W.Frag} {mg : Str → Option Value} {base : Heap}
theorem ok_init {f : Addr} {fd : FuncData} (F : Fun K "__init__" "BadMethod.__init__" sInit f fd) : FnOk P w K mg base CX0 1 f fd ["self", "name"] (spInit K) := by
  refine F.ok scInit (fun vs H Q E h => ?_) (fun cdv A outer s H vs Q E hr h => ?_)
  · obtain ⟨a, C, v, rfl, _⟩ := h
    rfl
  · obtain ⟨a, C, v, rfl, hC, hn, ha, q⟩ := h
    refine ⟨_, pss_one (ps_ost (pv 0) (pv 1)), ?_⟩
    exact ⟨_, rfl, _, rfl, a, C, rfl, hC, hn, .inl ⟨ha, fun dx hd ne => q dx hd ne⟩⟩
theorem ok_stop {f fM C fI : Addr} {fd fdM fdI : FuncData} (F : Fun K "is_stopper" "is_stopper" sStop f fd) (T : Txt mg) (FM : Fun K "is_method" "is_method" sMeth fM fdM) (bM : Binds K fdM ["thing"] []) (gM : mg "is_method" = some (.ref fM)) (GM : FnOk P w K mg base CX0 5 fM fdM ["thing"] spM)
    (gC : mg "BadMethod" = some (.ref C)) (oC : OexC K C) (nC : PySem.W.findIn K (.ref C) "name" = some none) (iC : PySem.W.findIn K (.ref C) "__init__" = some (some (.ref fI))) (tI : PySem.W.typeIn K (.ref fI) = some (.type "function")) (FI : Fun K "__init__" "BadMethod.__init__" sInit fI fdI) (bI : Binds K fdI ["self", "name"] []) :
    FnOk P w K mg base (L2.CX P w) 6 f fd ["method"] (spStop C) := by
  refine F.okX scStop (fun vs H Q E h => ?_) (fun cdv A outer s H vs Q E hr h => ?_)
  · obtain ⟨x, d, rfl, _⟩ := h
    rfl
  · obtain ⟨x, d, rfl, hx, q1, q2⟩ := h
    have hr2 : Room 2 _ := hr.mono (by decide)
    have tk := takes_of (X := cxOf (L2.CX P w) P w K mg base ["method"] "is_stopper" (defScope sStop) f cdv A outer s H E) (E := E) rfl rfl rfl rfl
    refine ⟨_, pss_cons (ps_if (pt_not (pt_val (pe_call GM hr (by rfl) gM FM.kp bM .nil pass0 (pa_cons (pv 0) pa_nil)))) (pss_one (ps_raise rfl tk (pmk_oex oC iC tI (ok_init FI) hr2 bI .nil pass0 (by rfl) gC (pa_cons pe_non pa_nil)))) pss_nil)
      (pss_one (ps_ret (pe_cmpR op_isN (pe_ix ix_tup (pv 0) pe_int (fun _ _ => rfl)) pe_non (nomark _)))), ?_⟩
    refine ⟨_, rfl, x, d, rfl, hx, fun H1 s1 => ⟨_, rfl, ?_⟩⟩
    cases hm : methD d with
    | false =>
      refine iteT ⟨by decide, fun a ha => ?_⟩
      refine ⟨a, C, .non, rfl, oC, nC, upd_same, fun dx hdx ne => ⟨rfl, dx, [("name", .non)], ?_, ?_, ?_, ?_⟩⟩
      · exact upd_same
      · rw [upd_ne ne]
        exact upd_same
      · rw [upd_ne ne] at hdx
        exact hdx
      · refine q2 hm _ dx (fun b o e => ?_) upd_same
        have e1 := s1 _ _ e
        have nb : b ≠ a := ne_of_none e1 ha
        have hd1 : H1 dx = none := by rw [upd_ne ne] at hdx; exact hdx
        have nd : b ≠ dx := ne_of_none e1 hd1
        rw [upd_ne nd, L2.del_ne nb, upd_ne nb, upd_ne nd, upd_ne nb]
        exact e1
    | true =>
      refine iteF ?_
      rcases td_cl (K := K) hx with ⟨a, xs, ds, rfl, rfl, e, l, ts⟩ | ⟨e0, _⟩
      · have h4 : xs.length = 4 := by
          rw [tds_len ts]
          by_cases h : ds.length = 4
          · exact h
          · rw [meth_len h] at hm
            cases hm
        match xs, h4, ts with
        | [x1, x2, x3, x4], _, .cons (d := d1) k1 (.cons (d := d2) k2 (.cons (d := d3) k3 (.cons (d := d4) k4 .nil))) =>
          refine ⟨_, rfl, a, _, _, x3, rfl, rfl, SqT.of (s1 _ _ e), atI_nat (j := 2) rfl, rfl, ?_⟩
          have e3 : decide (x3 = .non) = stopD (.tuple [d1, d2, d3, d4]) := by
            cases k3 <;> rfl
          rw [e3]
          exact q1 hm H1 s1
      · rw [e0] at hm
        cases hm
theorem ok_told {f fS C CW : Addr} {fd fdS : FuncData} (F : Fun K "_law_stopper_told" "_law_stopper_told" sTold f fd) (T : Txt mg) (FS : Fun K "is_stopper" "is_stopper" sStop fS fdS) (bS : Binds K fdS ["method"] []) (gS : mg "is_stopper" = some (.ref fS)) (GS : FnOk P w K mg base (L2.CX P w) 6 fS fdS ["method"] (spStop C))
    (gC : mg "BadMethod" = some (.ref C)) (gW : mg "WorldError" = some (.ref CW)) (hm : PySem.W.exmOne K (.ref C) (.ref CW) = some true) (eC : ExcC K C) (xC : XfC K C) (nC : PySem.W.findIn K (.ref C) "name" = some none) (kC : PySem.W.kitOne K (.ref C) (.ref C) = some true) :
    FnOk P w K mg base CX0 7 f fd ["_law_thing"] spTold := by
  refine F.ok scTold (fun vs H Q E h => ?_) (fun cdv A outer s H vs Q E hr h => ?_)
  · obtain ⟨x, d, rfl, _⟩ := h
    rfl
  · obtain ⟨x, d, rfl, hx, q⟩ := h
    refine ⟨_, pss_cons (ps_asg (pe_tup (pa_cons pe_non (pa_cons pe_non pa_nil))) (pg_tup rfl (pgs_cons (pg_name (i := 1) scTold.nd rfl (Or.inl rfl)) (pgs_cons (pg_name (i := 2) scTold.nd rfl (Or.inl rfl)) pgs_nil))))
      (pss_cons (ps_try_kept (i := 3) rfl rfl rfl scTold.nd rfl rfl ⟨by rfl, rfl, .inl gW⟩
        (fun W pn xe tk _ => pss_one (ps_set (i := 2) scTold.nd rfl (Or.inl rfl) (pe_callS GS hr (by rfl) gS FS.kp bS (passAt tk) (pa_cons (pv 0) pa_nil))))
        (fun a oe cls d pn hz hf => pss_one (ps_set (i := 1) scTold.nd rfl (Or.inl rfl) (pv 3))))
      (pss_cons (ps_if (pt_cmpR op_isN (pv 1) pe_non (nomark _)) (pss_one (ps_ret (pv 2))) pss_nil)
      (pss_one (ps_ret (pe_ifExp (pt_val (pe_callB call_isK (by rfl) T.isinstance (by decide +kernel) (pa_cons (pv 1) (pa_cons (pe_glob (v := .ref C) (by rfl) gC rfl) pa_nil)))) (pe_lst (pa_cons (pe_kf (pv 1)) pa_nil)) (pe_lst (pa_cons pe_str pa_nil))))))), ?_⟩
    refine ⟨(by show 2 ≤ PySem.sizeLine; decide), fun t0 h0 => ?_⟩
    have s0 := same_new (o := HO.tup [.non, .non]) h0
    refine ⟨t0, _, rfl, .inl (.inl upd_same), rfl, .non, _, rfl, .non, [], rfl, rfl, ?_⟩
    refine ⟨_, rfl, x, d, rfl, cl_same s0 hx, fun hd H1 s1 => ?_, fun hd H1 dd s1 ed => ⟨hm, fun a na => ?_⟩⟩
    · refine ⟨_, rfl, rfl, _, rfl, ?_⟩
      refine iteT ⟨_, rfl, q H1 _ (s0.trans s1) ?_⟩
      unfold toldD
      rw [if_pos hd]
      exact .bl _
    · have nda : dd ≠ a := ne_of_none ed na
      have s2 := same_new (o := Ke (.ref C) (some dd) a) na
      have kept : KeptAt (upd H1 a (Ke (.ref C) (some dd) a)) a C dd [("name", .non)] := ⟨upd_same, s2 _ _ ed⟩
      refine ⟨_, rfl, ?_⟩
      refine ⟨_, rfl, rfl, _, rfl, ?_⟩
      refine iteF ?_
      refine ⟨_, rfl, a, C, dd, _, .ref C, .ref C, true, rfl, eC, kept, fun u h => h, kC, _, rfl, ?_⟩
      refine iteT ⟨_, rfl, a, C, dd, _, .non, rfl, xC, nC, kept, rfl, (by show 1 ≤ PySem.sizeLine; decide), fun l hl => ?_⟩
      refine q _ _ ((s0.trans s1).trans (s2.trans (same_new hl))) ?_
      unfold toldD
      rw [if_neg (by rw [hd]; exact fun z => nomatch z)]
      exact .lst upd_same (by show 1 ≤ 1000; decide) (.cons .non .nil)
end
end K03

set_option Elab.async false
set_option maxRecDepth 100000
set_option maxHeartbeats 4000000
namespace Nb
open PySem
open L2 hiding del del_ne del_same
theorem seqIx {j n : Nat} (h : j < n) : PySem.seqIndex? (j : Int) n = some j := by
  have e : PySem.seqIndex? (j : Int) n = if (decide (0 ≤ (if (j : Int) < 0 then (j : Int) + n else (j : Int))) && decide ((if (j : Int) < 0 then (j : Int) + n else (j : Int)) < n)) = true then some (if (j : Int) < 0 then (j : Int) + n else (j : Int)).toNat else none := rfl
  rw [e, if_neg (show ¬ ((j : Int) < 0) by omega), if_pos (by simp; omega), Int.toNat_natCast]
theorem erase_map (l : List Str) (j : Nat) : (l.map V.str).eraseIdx j = (l.eraseIdx j).map V.str := by
  induction l generalizing j with
  | nil => rfl
  | cons x l ih =>
    cases j with
    | zero => rfl
    | succ j =>
      show V.str x :: (l.map V.str).eraseIdx j = V.str x :: (l.eraseIdx j).map V.str
      rw [ih]
theorem erase_perm {l : List Str} {j : Nat} (h : j < l.length) : (l[j] :: l.eraseIdx j).Perm l := by
  induction l generalizing j with
  | nil => simp at h
  | cons x l ih =>
    cases j with
    | zero => exact List.Perm.refl _
    | succ j =>
      have hj : j < l.length := by simpa using h
      show (l[j] :: x :: l.eraseIdx j).Perm (x :: l)
      exact (List.Perm.swap x l[j] _).trans ((ih hj).cons x)
theorem dps_strs {K : PySem.W.Frag} {H : Hp} : ∀ zs : List Str, DpAll K H (zs.map V.str) (zs.map PyData.str)
  | [] => .nil
  | z :: zs => .cons (.str z) (dps_strs zs)
theorem fine_strs {zs : List Str} (h : ∀ z ∈ zs, Word z) : Fine 1 (.list (zs.map PyData.str)) := fine_list fun d hd => by
  obtain ⟨z, hz, rfl⟩ := List.mem_map.mp hd
  exact fine_str (h z hz).2
theorem cut_strs (ys : List Str) (lo hi : Option Int) : ∃ ws : List Str, cutV (ys.map V.str) lo hi = ws.map V.str ∧ ws.Sublist ys := by
  refine ⟨(ys.drop (HT.sIx (ys.map V.str).length 0 lo)).take (HT.sIx (ys.map V.str).length (ys.map V.str).length hi - HT.sIx (ys.map V.str).length 0 lo), ?_, (List.take_sublist _ _).trans (List.drop_sublist _ _)⟩
  unfold cutV
  rw [List.map_take, List.map_drop]
/-- the same texts in another order, as a new list -/
def spMixed : Sp := fun vs H Q _ => ∃ (p l : Addr) (zs : List Str) (b : Nat) (F : Hp), vs = [.ref p, .ref l] ∧ F l = some (.lst (zs.map V.str)) ∧ zs.length ≤ 20 ∧ (∀ z ∈ zs, Word z) ∧ Src H p b ∧ b ≤ 900000 ∧ F p = none ∧ Same F H ∧
  ∀ (H' : Hp) (l' : Addr) (ys : List Str), Same F H' → F l' = none → l' ≠ p → H' l' = some (.lst (ys.map V.str)) → ys.Perm zs → Src H' p (b + zs.length) → Q (.ref l') H'
theorem tw_words {H : Hp} {a : Addr} {zs : List Str} {ws : List Str} (e : H a = some (.tup (zs.map V.str))) (l : zs.length ≤ 5) (h : ∀ z ∈ zs, z ∈ ws) (o : ∀ z ∈ ws, Word z ∧ z.length ≤ 10) : Tw H 1 60 (.ref a) := by
  refine tw_mono (tw_tup (w := 10) e (by rw [List.length_map]; omega) fun x hx => ?_) (by rw [List.length_map]; omega)
  obtain ⟨z, hz, rfl⟩ := List.mem_map.mp hx
  exact tw_str (o z (h z hz)).1 (o z (h z hz)).2
def uvw : List Str := ["u", "v", "w"]
def opq : List Str := ["o", "p", "q"]
def okW (l : List Str) : Bool := l.all fun z => decide (z.length ≤ 10) && PyData.strOk z
theorem okW_mem {l : List Str} (h : okW l = true) : ∀ z ∈ l, Word z ∧ z.length ≤ 10 := fun z hz => by
  have h2 := List.all_eq_true.mp h z hz
  rw [Bool.and_eq_true, decide_eq_true_eq] at h2
  exact ⟨⟨by omega, h2.2⟩, h2.1⟩
/-- a new tuple of words -/
def spWordRow : Sp := fun vs H Q _ => ∃ (p : Addr) (m b : Nat) (F : Hp), vs = [.ref p, .int m] ∧ m ≤ 3 ∧ Src H p b ∧ b ≤ 800000 ∧ F p = none ∧ Same F H ∧
  ∀ H' t, Same F H' → Tw (Nb.del H' p) 1 60 (.ref t) → Src H' p (b + 6) → Q (.ref t) H'
/-- a new method -/
def spMethod : Sp := fun vs H Q _ => ∃ (p : Addr) (b : Nat) (F : Hp), vs = [.ref p] ∧ Src H p b ∧ b ≤ 700000 ∧ F p = none ∧ Same F H ∧
  ∀ H' t xs, Same F H' → H' t = some (.tup xs) → xs.length = 4 → (∀ x ∈ xs, Tw (Nb.del H' p) 2 100 x) → Src H' p (b + 40) → Q (.ref t) H'
/-- a tuple with one part replaced -/
def spBent : Sp := fun vs H Q _ => ∃ (p t : Addr) (b : Nat) (xs : List V) (F : Hp), vs = [.ref p, .ref t] ∧ F t = some (.tup xs) ∧ xs.length ≤ 20 ∧ (∀ x ∈ xs, Tw F 2 100 x) ∧ Src H p b ∧ b ≤ 700000 ∧ F p = none ∧ Same F H ∧
  ∀ H' t ys, Same F H' → H' t = some (.tup ys) → ys.length ≤ 2 * xs.length + 1 → (∀ y ∈ ys, Tw (Nb.del H' p) 2 100 y) → Src H' p (b + 2) → Q (.ref t) H'
end Nb
namespace K03
open PySem Nb
open L2 hiding del del_ne del_same
abbrev sMixed : Stmt := topT 20
abbrev sWordRow : Stmt := topT 21
abbrev sMethod : Stmt := topT 22
abbrev sBent : Stmt := topT 28
theorem scMixed : FnScope ["_law_source_here", "_law_items", "_law_rest", "_law_found"] ["_law_source_here", "_law_items"] (defScope sMixed) := ⟨rfl, rfl, rfl, by decide +kernel, rfl, by decide +kernel, by decide +kernel⟩
section
variable {P : Program} {w : World} {K : PySem.W.Frag} {mg : Str → Option Value} {base : Heap}
theorem ok_mixed {f fnext : Addr} {fd fdN : FuncData} (F : Fun K "_law_mixed" "_law_mixed" sMixed f fd) (T : Txt mg) (Fnext : Fun K "_law_next" "_law_next" sNext fnext fdN) (bnext : Binds K fdN ["_law_source_here", "_law_many"] []) (gnext : mg "_law_next" = some (.ref fnext))
    (Gnext : FnOk P w K mg base CX0 1 fnext fdN ["_law_source_here", "_law_many"] spNext) : FnOk P w K mg base CX0 2 f fd ["_law_source_here", "_law_items"] spMixed := by
  refine F.ok scMixed (fun vs H Q E h => ?_) (fun cdv A outer s H vs Q E hr h => ?_)
  · obtain ⟨p, l, zs, b, G, rfl, _⟩ := h
    rfl
  · obtain ⟨p, l, zs, b, G, rfl, hl, hlen, hw, hS, hB, hG, hs, q⟩ := h
    refine ⟨_, pss_cons (ps_par (i := 2) (j := 3) rfl scMixed.nd rfl rfl (by decide) rfl rfl (pa_cons (pe_callTy call_list_of (by rfl) T.list (by decide +kernel) (pa_cons (pv 1) pa_nil)) (pa_cons (pe_lst pa_nil) pa_nil)) rfl)
        (pss_cons (ps_while PassesOwn.never (pt_cmpR (op_neD hr.units) (pv 2) (pe_lst pa_nil) (nomark _)) (pss_one (ps_expr (pe_bm PySem.F.plainAttrs_list PySem.F.slot_list_append PySem.F.type_list_append mt_append (pv 3) (pa_cons (pe_bm PySem.F.plainAttrs_list PySem.F.slot_list_pop PySem.F.type_list_pop mt_popAt (pv 2) (pa_cons (pe_call Gnext hr (by rfl) gnext Fnext.kp bnext .nil pass0 (pa_cons (pv 0) (pa_cons (pe_callB call_len_seq (by rfl) T.len PySem.boot_len (pa_cons (pv 2) pa_nil)) pa_nil))) pa_nil)) pa_nil)))))
        (pss_one (ps_ret (pv 3)))), ?_⟩
    refine ⟨_, rfl, l, _, rfl, .inl (SqL.of (hs _ _ hl)), fun r hr0 => ?_⟩
    refine ⟨Nat.zero_le _, fun o ho => ?_⟩
    have nrp : r ≠ p := src_fresh hS hr0
    have S1 := src_new (o := HO.lst (zs.map V.str)) hS hr0
    have nop : o ≠ p := src_fresh S1 ho
    have nro : r ≠ o := ne_of_none upd_same ho
    have Gr : G r = none := hs.free hr0
    have Go : G o = none := (hs.trans (same_new hr0)).free ho
    refine ⟨_, _, rfl, while_by (fun σ H' => ∃ rs fs : List Str, σ = [some (.ref p), some (.ref l), some (.ref r), some (.ref o)] ∧ Same G H' ∧ H' r = some (.lst (rs.map V.str)) ∧ H' o = some (.lst (fs.map V.str)) ∧ (fs ++ rs).Perm zs ∧ Src H' p (b + fs.length))
      (fun σ H' => match H' r with | some (.lst xs) => xs.length | _ => 0) ?_ ?_ ?_⟩
    · refine ⟨zs, [], rfl, (hs.trans (same_new hr0)).trans (same_new ho), by rw [upd_ne nro]; exact upd_same, upd_same, List.Perm.refl _, src_new S1 ho⟩
    · rintro σ H' ⟨rs, fs, rfl, s1, er, eo, pm, S'⟩
      have lrs : fs.length + rs.length = zs.length := by rw [← List.length_append]; exact pm.length_eq
      have wrs : ∀ z ∈ rs, Word z := fun z hz => hw z (pm.subset (List.mem_append_right _ hz))
      refine ⟨_, rfl, Nat.zero_le _, fun e he => ?_⟩
      have ner : r ≠ e := ne_of_none er he
      have neo : o ≠ e := ne_of_none eo he
      have s2 : Same H' (upd H' e (.lst [])) := same_new he
      refine ⟨.list (rs.map PyData.str), .list [], .lst (SqL.of (s2 _ _ er)) (dps_strs rs), .lst (SqL.of upd_same) .nil, (fine_strs wrs).shaped (by decide), by decide, _, rfl, ?_⟩
      rw [eqv_nil]
      cases rs with
      | nil =>
        refine iteF ?_
        refine ⟨_, rfl, ?_⟩
        refine q _ o fs (s1.trans s2) Go nop (by rw [upd_ne neo]; exact eo) (by simpa using pm) ?_
        have : fs.length = zs.length := by simpa using lrs
        rw [← this]
        exact src_new S' he
      | cons z0 rs =>
        refine iteT ?_
        have S2 := src_new (o := HO.lst []) S' he
        have m0 : (match (upd H' e (.lst [])) r with | some (.lst xs) => xs.length | _ => 0) = (z0 :: rs).length := by
          rw [upd_ne ner, er]
          simp
        refine ⟨_, rfl, .inl ⟨rfl, _, SqL.of (s2 _ _ eo)⟩, _, rfl, .inl ⟨rfl, _, SqL.of (s2 _ _ er)⟩, _, rfl, _, rfl, r, _, rfl, .inl (SqL.of (s2 _ _ er)), p, _, _, del (upd H' e (.lst [])) p, rfl, by simp; omega, by simp at lrs ⊢; omega, S2, by omega, del_at, del_same, fun H2 k k0 k1 s3 S3 => ?_⟩
        have er2 := del_get s3 nrp (s2 _ _ er)
        have eo2 := del_get s3 nop (s2 _ _ eo)
        obtain ⟨j, rfl⟩ : ∃ j : Nat, k = (j : Int) := ⟨_, (Int.toNat_of_nonneg k0).symm⟩
        have hj : j < (z0 :: rs).length := by simp at k1 ⊢; omega
        have hjl : j < 1000 := by simp at hj lrs; omega
        refine ⟨r, _, _, j, .str (z0 :: rs)[j], rfl, rfl, er2, by omega, by omega, ?_, ?_, ?_⟩
        · exact seqIx (by rw [List.length_map]; exact hj)
        · rw [List.getElem?_map, List.getElem?_eq_getElem hj]
          rfl
        · rw [erase_map]
          have lr2 : ((z0 :: rs).eraseIdx j).length = rs.length := by rw [List.length_eraseIdx_of_lt hj]; rfl
          have nor : o ≠ r := nro.symm
          have eo3 : (upd H2 r (.lst (((z0 :: rs).eraseIdx j).map V.str))) o = some (.lst (fs.map V.str)) := by rw [upd_ne nor]; exact eo2
          refine ⟨o, _, _, rfl, rfl, eo3, ?_, ?_, ?_⟩
          · rw [List.length_map]
            exact small1000 (by omega)
          · refine ⟨(z0 :: rs).eraseIdx j, fs ++ [(z0 :: rs)[j]], rfl, ?_, ?_, ?_, ?_, ?_⟩
            · have s4 : Same G H2 := (same_del (s1.trans s2) hG).trans s3
              exact same_at (same_at s4 Gr) Go
            · rw [upd_ne nro]
              exact upd_same
            · rw [upd_same]
              simp
            · refine List.Perm.trans ?_ pm
              rw [List.append_assoc]
              exact List.Perm.append_left fs (erase_perm hj)
            · have := src_at (src_at S3 nrp.symm) nop.symm (o := HO.lst (fs.map V.str ++ [V.str (z0 :: rs)[j]])) (H := upd H2 r (.lst (((z0 :: rs).eraseIdx j).map V.str)))
              refine this.mono ?_
              rw [List.length_append]
              simp
              omega
          · show (match (upd (upd H2 r _) o _) r with | some (.lst xs) => xs.length | _ => 0) < (match H' r with | some (.lst xs) => xs.length | _ => 0)
            rw [upd_ne nro, upd_same, er]
            simp only [List.length_map]
            rw [lr2]
            exact Nat.lt_succ_self _
    · rintro σ' H1 Q1 Q2 hq ⟨v, ev, lv, kv⟩
      exact ⟨v, ev, lv, fun p hp => let ⟨d, e, a1, a2, a3, a4, c, ec, qq⟩ := kv p hp; ⟨d, e, a1, a2, a3, a4, c, ec, hq _ _ qq⟩⟩
theorem scWordRow : FnScope ["_law_source_here", "_law_most", "_law_turn"] ["_law_source_here", "_law_most"] (defScope sWordRow) := ⟨rfl, rfl, rfl, by decide +kernel, rfl, by decide +kernel, by decide +kernel⟩
theorem scMethod : FnScope ["_law_source_here", "_law_takes", "_law_before", "_law_passes"] ["_law_source_here"] (defScope sMethod) := ⟨rfl, rfl, rfl, by decide +kernel, rfl, by decide +kernel, by decide +kernel⟩
theorem scBent : FnScope ["_law_source_here", "_law_thing", "_law_odd", "_law_spot"] ["_law_source_here", "_law_thing"] (defScope sBent) := ⟨rfl, rfl, rfl, by decide +kernel, rfl, by decide +kernel, by decide +kernel⟩
theorem ok_wordrow {f fnext fpick : Addr} {fd fdN fdP : FuncData} (F : Fun K "_law_word_row" "_law_word_row" sWordRow f fd) (T : Txt mg) (Fnext : Fun K "_law_next" "_law_next" sNext fnext fdN) (bnext : Binds K fdN ["_law_source_here", "_law_many"] []) (gnext : mg "_law_next" = some (.ref fnext)) (Gnext : FnOk P w K mg base CX0 1 fnext fdN ["_law_source_here", "_law_many"] spNext)
    (Fpick : Fun K "_law_pick" "_law_pick" sPick fpick fdP) (bpick : Binds K fdP ["_law_source_here", "_law_items"] []) (gpick : mg "_law_pick" = some (.ref fpick)) (Gpick : FnOk P w K mg base CX0 2 fpick fdP ["_law_source_here", "_law_items"] spPick) : FnOk P w K mg base CX0 3 f fd ["_law_source_here", "_law_most"] spWordRow := by
  refine F.ok scWordRow (fun vs H Q E h => ?_) (fun cdv A outer s H vs Q E hr h => ?_)
  · obtain ⟨p, m, b, G, rfl, _⟩ := h
    rfl
  · obtain ⟨p, m, b, G, rfl, hm, hS, hB, hG, hs, q⟩ := h
    have hr1 : Room 1 _ := hr.mono (by decide)
    refine ⟨_, pss_one (ps_ret (pe_callTy call_tuple_of (by rfl) T.tuple (by decide +kernel) (pa_cons (pe_lc (own := [("_law_turn", 2)]) (g := gName 2) (tt := tYes) rfl scWordRow.nd (pi_range1 (by rfl) T.range (pa_cons (pe_call Gnext hr1 (by rfl) gnext Fnext.kp bnext .nil pass0 (pa_cons (pv 0) (pa_cons (pe_op op_add (pv 1) pe_int) pa_nil))) pa_nil)) (blkOk_by (N := ["_law_source_here", "_law_most", "_law_turn"]) (sc := defScope sWordRow) (by decide +kernel)) (fun _ _ _ _ _ => (pg_name (i := 2) scWordRow.nd rfl (Or.inl rfl))) (fun _ _ _ _ _ => pts_nil) (fun _ _ _ _ _ => (pe_call Gpick hr (by rfl) gpick Fpick.kp bpick .nil pass0 (pa_cons (pv 0) (pa_cons (pe_lst (pa_cons pe_str (pa_cons pe_str (pa_cons pe_str pa_nil)))) pa_nil))))) pa_nil))), ?_⟩
    refine ⟨_, rfl, _, rfl, _, _, rfl, rfl, p, (m : Int) + 1, b, Nb.del H p, rfl, by omega, by omega, hS, by omega, del_at, del_same, fun H1 k k0 k1 s1 S1 => ?_⟩
    refine ⟨k, rfl, by omega, by omega, fun D hD => ?_⟩
    have sG1 : Same G H1 := (same_del hs hG).trans s1
    have GD : G D = none := sG1.free hD
    have nDp : D ≠ p := src_fresh S1 hD
    refine lc_range (lo := 0) (n := k.toNat) (fun i H2 => Same G H2 ∧ Src H2 p (b + 1 + i) ∧ ∃ zs : List Str, H2 D = some (.lst (zs.map V.str)) ∧ zs.length = i ∧ ∀ z ∈ zs, z ∈ uvw) ⟨sG1.trans (same_new hD), src_new S1 hD, [], upd_same, rfl, fun z hz => (nomatch hz)⟩ ?_ ?_
    · rintro i H2 hi ⟨s2, S2, zs, eD, lz, hz⟩
      refine ⟨rfl, _, rfl, (by show 3 ≤ PySem.sizeLine; decide), fun l hl => ?_⟩
      have n2 := same_new (o := HO.lst (uvw.map V.str)) hl
      have nlp := src_fresh S2 hl
      refine ⟨p, l, uvw.map V.str, b + 1 + i, Nb.del (upd H2 l (.lst (uvw.map V.str))) p, rfl, by rw [del_ne nlp]; exact upd_same, by decide, by decide, src_new S2 hl, by omega, del_at, del_same, fun H3 x hx s3 S3 => ?_⟩
      obtain ⟨z, hzz, rfl⟩ := List.mem_map.mp hx
      have eD3 := del_get s3 nDp (n2 _ _ eD)
      refine ⟨_, eD3, by rw [List.length_map]; exact small1000 (by omega), same_at ((same_del (s2.trans n2) hG).trans s3) GD, src_at S3 nDp.symm, zs ++ [z], ?_, by simp [lz], fun y hy => ?_⟩
      · rw [upd_same]
        simp
      · rcases List.mem_append.mp hy with hy | hy
        · exact hz y hy
        · rw [List.mem_singleton.mp hy]
          exact hzz
    · rintro H2 ⟨s2, S2, zs, eD, lz, hz⟩
      refine ⟨D, _, rfl, .inl ⟨SqL.of eD, fun t ht => ?_⟩⟩
      have S3 := src_new (o := HO.tup (zs.map V.str)) S2 ht
      refine q _ t (s2.trans (same_new ht)) ?_ (S3.mono (by omega))
      exact tw_words (del_tup S3 upd_same) (by omega) hz (okW_mem (by decide +kernel))
theorem ok_method {f fnext fpick fmixed frow : Addr} {fd fdN fdP fdM fdR : FuncData} (F : Fun K "_law_method" "_law_method" sMethod f fd) (T : Txt mg) (Fnext : Fun K "_law_next" "_law_next" sNext fnext fdN) (bnext : Binds K fdN ["_law_source_here", "_law_many"] []) (gnext : mg "_law_next" = some (.ref fnext)) (Gnext : FnOk P w K mg base CX0 1 fnext fdN ["_law_source_here", "_law_many"] spNext)
    (Fpick : Fun K "_law_pick" "_law_pick" sPick fpick fdP) (bpick : Binds K fdP ["_law_source_here", "_law_items"] []) (gpick : mg "_law_pick" = some (.ref fpick)) (Gpick : FnOk P w K mg base CX0 2 fpick fdP ["_law_source_here", "_law_items"] spPick)
    (Fmixed : Fun K "_law_mixed" "_law_mixed" sMixed fmixed fdM) (bmixed : Binds K fdM ["_law_source_here", "_law_items"] []) (gmixed : mg "_law_mixed" = some (.ref fmixed)) (Gmixed : FnOk P w K mg base CX0 2 fmixed fdM ["_law_source_here", "_law_items"] spMixed)
    (Fword_row : Fun K "_law_word_row" "_law_word_row" sWordRow frow fdR) (bword_row : Binds K fdR ["_law_source_here", "_law_most"] []) (gword_row : mg "_law_word_row" = some (.ref frow)) (Gword_row : FnOk P w K mg base CX0 3 frow fdR ["_law_source_here", "_law_most"] spWordRow) :
    FnOk P w K mg base CX0 4 f fd ["_law_source_here"] spMethod := by
  refine F.ok scMethod (fun vs H Q E h => ?_) (fun cdv A outer s H vs Q E hr h => ?_)
  · obtain ⟨p, b, G, rfl, _⟩ := h
    rfl
  · obtain ⟨p, b, G, rfl, hS, hB, hG, hs, q⟩ := h
    have hr1 : Room 1 _ := hr.mono (by decide)
    have hr2 : Room 2 _ := hr.mono (by decide)
    refine ⟨_, pss_cons (ps_set (i := 1) scMethod.nd rfl (Or.inl rfl) (pe_callTy call_tuple_of (by rfl) T.tuple (by decide +kernel) (pa_cons (pe_slice sl_list (pe_call Gmixed hr2 (by rfl) gmixed Fmixed.kp bmixed .nil pass0 (pa_cons (pv 0) (pa_cons (pe_lst (pa_cons pe_str (pa_cons pe_str (pa_cons pe_str pa_nil)))) pa_nil))) po_none (po_some (pe_call Gpick hr2 (by rfl) gpick Fpick.kp bpick .nil pass0 (pa_cons (pv 0) (pa_cons (pe_lst (pa_cons pe_int (pa_cons pe_int (pa_cons pe_int (pa_cons pe_int (pa_cons pe_int (pa_cons pe_int pa_nil))))))) pa_nil))))) pa_nil)))
        (pss_cons (ps_set (i := 2) scMethod.nd rfl (Or.inl rfl) (pe_call Gword_row hr (by rfl) gword_row Fword_row.kp bword_row .nil pass0 (pa_cons (pv 0) (pa_cons pe_int pa_nil))))
        (pss_cons (ps_if (pt_cmpR op_eq (pe_call Gnext hr1 (by rfl) gnext Fnext.kp bnext .nil pass0 (pa_cons (pv 0) (pa_cons pe_int pa_nil))) pe_int (nomark _)) (pss_one (ps_ret (pe_tup (pa_cons (pv 1) (pa_cons (pv 2) (pa_cons pe_non (pa_cons (pe_tup pa_nil) pa_nil))))))) pss_nil)
        (pss_cons (ps_set (i := 3) scMethod.nd rfl (Or.inl rfl) (pe_callTy call_tuple_of (by rfl) T.tuple (by decide +kernel) (pa_cons (pe_slice sl_list (pe_call Gmixed hr2 (by rfl) gmixed Fmixed.kp bmixed .nil pass0 (pa_cons (pv 0) (pa_cons (pe_lst (pa_cons pe_str (pa_cons pe_str (pa_cons pe_str pa_nil)))) pa_nil))) po_none (po_some (pe_call Gpick hr2 (by rfl) gpick Fpick.kp bpick .nil pass0 (pa_cons (pv 0) (pa_cons (pe_lst (pa_cons pe_int (pa_cons pe_int (pa_cons pe_int pa_nil)))) pa_nil))))) pa_nil)))
        (pss_one (ps_ret (pe_tup (pa_cons (pv 1) (pa_cons (pv 2) (pa_cons (pv 3) (pa_cons (pe_call Gword_row hr (by rfl) gword_row Fword_row.kp bword_row .nil pass0 (pa_cons (pv 0) (pa_cons pe_int pa_nil))) pa_nil)))))))))), ?_⟩
    refine ⟨_, rfl, (by show 3 ≤ PySem.sizeLine; decide), fun la hla => ?_⟩
    have nla := src_fresh hS hla
    refine ⟨p, la, opq, b, Nb.del (upd H la (.lst (opq.map V.str))) p, rfl, by rw [del_ne nla]; exact upd_same, by decide, fun z hz => (okW_mem (l := opq) (by decide +kernel) z hz).1, src_new hS hla, by omega, del_at, del_same, fun H1a l1a ysa s1a f1a n1a e1a pma S1a => ?_⟩
    have g1a : Same G H1a := (same_del (hs.trans (same_new hla)) hG).trans s1a
    have d1a : Same (Nb.del H p) (Nb.del H1a p) := (del_up (same_new hla)).trans (same_del s1a del_at)
    have S1a : Src H1a p (b + 3) := S1a
    refine noPart ⟨_, rfl, (by show 6 ≤ PySem.sizeLine; decide), fun l2a hl2a => ?_⟩
    have nl2a := src_fresh S1a hl2a
    refine ⟨p, l2a, ([0, 0, 0, 1, 1, 2] : List Int).map V.int, b + 3, Nb.del (upd H1a l2a (.lst (([0, 0, 0, 1, 1, 2] : List Int).map V.int))) p, rfl, by rw [del_ne nl2a]; exact upd_same, by decide, by decide, src_new S1a hl2a, by omega, del_at, del_same, fun H2a xa hxa s2a S2a => ?_⟩
    obtain ⟨ka, hka, rfl⟩ := List.mem_map.mp hxa
    have g2a : Same G H2a := (same_del (g1a.trans (same_new hl2a)) hG).trans s2a
    have d2a : Same (Nb.del H p) (Nb.del H2a p) := d1a.trans ((del_up (same_new hl2a)).trans (same_del s2a del_at))
    have e2a := del_get s2a n1a (same_new hl2a _ _ e1a)
    refine ⟨ka, rfl, l1a, _, rfl, SqL.of e2a, fun Wa hWa => ?_⟩
    obtain ⟨usa, eusa, suba⟩ := cut_strs ysa none (some ka)
    have n3a := same_new (o := HO.lst (cutV (ysa.map V.str) none (some ka))) hWa
    refine ⟨Wa, _, rfl, .inl ⟨SqL.of upd_same, fun ta hta => ?_⟩⟩
    have n4a := same_new (o := HO.tup (cutV (ysa.map V.str) none (some ka))) hta
    have S3a := src_new (o := HO.tup (cutV (ysa.map V.str) none (some ka))) (src_new (o := HO.lst (cutV (ysa.map V.str) none (some ka))) S2a hWa) hta
    have g3a := g2a.trans (n3a.trans n4a)
    have d3a := d2a.trans (del_up (p := p) (n3a.trans n4a))
    have lena : usa.length ≤ 5 := by
      have h1 := suba.length_le
      have h2 : ysa.length = 3 := pma.length_eq
      omega
    have w1a : Tw (Nb.del (upd (upd H2a Wa (.lst (cutV (ysa.map V.str) none (some ka)))) ta (.tup (cutV (ysa.map V.str) none (some ka)))) p) 1 60 (.ref ta) :=
      tw_words (zs := usa) (ws := opq) (by rw [← eusa]; exact del_tup S3a upd_same) lena (fun z hz => pma.subset (suba.subset hz)) (okW_mem (by decide +kernel))
    refine ⟨_, rfl, p, 2, _, Nb.del _ p, rfl, by decide, S3a, by omega, del_at, del_same, fun H4 t2 s4 w4 S4 => ?_⟩
    have g4 : Same G H4 := (same_del g3a hG).trans s4
    have wa4 := tw_same (same_del s4 del_at) w1a
    refine ⟨_, rfl, p, 5, _, Nb.del H4 p, rfl, by decide, by decide, S4, by omega, del_at, del_same, fun H5 k k0 k5 s5 S5 => ⟨rfl, _, rfl, ?_⟩⟩
    have g5 : Same G H5 := (same_del g4 hG).trans s5
    have wa5 := tw_same (same_del s5 del_at) wa4
    have wb5 := tw_same (same_del s5 del_at) w4
    refine ite2 (fun _ => ?_) (fun _ => ?_)
    · refine ⟨_, rfl, _, rfl, Nat.zero_le _, fun t3 h3 => ?_⟩
      have n6 := same_new (o := HO.tup []) h3
      refine ⟨(by show 4 ≤ PySem.sizeLine; decide), fun t4 h4 => ?_⟩
      have n7 := same_new (o := HO.tup [.ref ta, .ref t2, .non, .ref t3]) h4
      have S7 := src_new (o := HO.tup [.ref ta, .ref t2, .non, .ref t3]) (src_new (o := HO.tup []) S5 h3) h4
      refine q _ t4 _ (g5.trans (n6.trans n7)) upd_same rfl (fun x hx => ?_) (S7.mono (by omega))
      simp only [List.mem_cons, List.not_mem_nil, or_false] at hx
      rcases hx with rfl | rfl | rfl | rfl
      · exact tw_mono (tw_up (tw_same (del_up (n6.trans n7)) wa5) 1) (by decide)
      · exact tw_mono (tw_up (tw_same (del_up (n6.trans n7)) wb5) 1) (by decide)
      · exact tw_non
      · exact tw_mono (tw_up (tw_tup (w := 0) (n := 0) (xs := []) (del_tup S7 (n7 _ _ upd_same)) (by decide) (fun x hx => (nomatch hx))) 1) (by decide)
    · refine ⟨_, rfl, (by show 3 ≤ PySem.sizeLine; decide), fun lc hlc => ?_⟩
      have nlc := src_fresh S5 hlc
      refine ⟨p, lc, opq, (b + 3 + 1 + 6 + 1), Nb.del (upd H5 lc (.lst (opq.map V.str))) p, rfl, by rw [del_ne nlc]; exact upd_same, by decide, fun z hz => (okW_mem (l := opq) (by decide +kernel) z hz).1, src_new S5 hlc, by omega, del_at, del_same, fun H1c l1c ysc s1c f1c n1c e1c pmc S1c => ?_⟩
      have g1c : Same G H1c := (same_del (g5.trans (same_new hlc)) hG).trans s1c
      have d1c : Same (Nb.del H5 p) (Nb.del H1c p) := (del_up (same_new hlc)).trans (same_del s1c del_at)
      have S1c : Src H1c p ((b + 3 + 1 + 6 + 1) + 3) := S1c
      refine noPart ⟨_, rfl, (by show 3 ≤ PySem.sizeLine; decide), fun l2c hl2c => ?_⟩
      have nl2c := src_fresh S1c hl2c
      refine ⟨p, l2c, ([0, 0, 1] : List Int).map V.int, (b + 3 + 1 + 6 + 1) + 3, Nb.del (upd H1c l2c (.lst (([0, 0, 1] : List Int).map V.int))) p, rfl, by rw [del_ne nl2c]; exact upd_same, by decide, by decide, src_new S1c hl2c, by omega, del_at, del_same, fun H2c xc hxc s2c S2c => ?_⟩
      obtain ⟨kc, hkc, rfl⟩ := List.mem_map.mp hxc
      have g2c : Same G H2c := (same_del (g1c.trans (same_new hl2c)) hG).trans s2c
      have d2c : Same (Nb.del H5 p) (Nb.del H2c p) := d1c.trans ((del_up (same_new hl2c)).trans (same_del s2c del_at))
      have e2c := del_get s2c n1c (same_new hl2c _ _ e1c)
      refine ⟨kc, rfl, l1c, _, rfl, SqL.of e2c, fun Wc hWc => ?_⟩
      obtain ⟨usc, eusc, subc⟩ := cut_strs ysc none (some kc)
      have n3c := same_new (o := HO.lst (cutV (ysc.map V.str) none (some kc))) hWc
      refine ⟨Wc, _, rfl, .inl ⟨SqL.of upd_same, fun tc htc => ?_⟩⟩
      have n4c := same_new (o := HO.tup (cutV (ysc.map V.str) none (some kc))) htc
      have S3c := src_new (o := HO.tup (cutV (ysc.map V.str) none (some kc))) (src_new (o := HO.lst (cutV (ysc.map V.str) none (some kc))) S2c hWc) htc
      have g3c := g2c.trans (n3c.trans n4c)
      have d3c := d2c.trans (del_up (p := p) (n3c.trans n4c))
      have lenc : usc.length ≤ 5 := by
        have h1 := subc.length_le
        have h2 : ysc.length = 3 := pmc.length_eq
        omega
      have w1c : Tw (Nb.del (upd (upd H2c Wc (.lst (cutV (ysc.map V.str) none (some kc)))) tc (.tup (cutV (ysc.map V.str) none (some kc)))) p) 1 60 (.ref tc) :=
        tw_words (zs := usc) (ws := opq) (by rw [← eusc]; exact del_tup S3c upd_same) lenc (fun z hz => pmc.subset (subc.subset hz)) (okW_mem (by decide +kernel))
      refine ⟨_, rfl, _, rfl, _, rfl, _, rfl, p, 1, _, Nb.del _ p, rfl, by decide, S3c, by omega, del_at, del_same, fun H6 t6 s6 w6 S6 => ?_⟩
      refine ⟨(by show 4 ≤ PySem.sizeLine; decide), fun t4 h4 => ?_⟩
      have n7 := same_new (o := HO.tup [.ref ta, .ref t2, .ref tc, .ref t6]) h4
      have d6 := (d3c.trans (same_del s6 del_at)).trans (del_up (p := p) n7)
      refine q _ t4 _ (((same_del g3c hG).trans s6).trans n7) upd_same rfl (fun x hx => ?_) ((src_new S6 h4).mono (by omega))
      simp only [List.mem_cons, List.not_mem_nil, or_false] at hx
      rcases hx with rfl | rfl | rfl | rfl
      · exact tw_mono (tw_up (tw_same d6 wa5) 1) (by decide)
      · exact tw_mono (tw_up (tw_same d6 wb5) 1) (by decide)
      · exact tw_mono (tw_up (tw_same ((same_del s6 del_at).trans (del_up (p := p) n7)) w1c) 1) (by decide)
      · exact tw_mono (tw_up (tw_same (del_up n7) w6) 1) (by decide)
theorem ok_bent {f fnext fpick : Addr} {fd fdN fdP : FuncData} (F : Fun K "_law_bent_method" "_law_bent_method" sBent f fd) (T : Txt mg) (Fnext : Fun K "_law_next" "_law_next" sNext fnext fdN) (bnext : Binds K fdN ["_law_source_here", "_law_many"] []) (gnext : mg "_law_next" = some (.ref fnext)) (Gnext : FnOk P w K mg base CX0 1 fnext fdN ["_law_source_here", "_law_many"] spNext)
    (Fpick : Fun K "_law_pick" "_law_pick" sPick fpick fdP) (bpick : Binds K fdP ["_law_source_here", "_law_items"] []) (gpick : mg "_law_pick" = some (.ref fpick)) (Gpick : FnOk P w K mg base CX0 2 fpick fdP ["_law_source_here", "_law_items"] spPick) : FnOk P w K mg base CX0 3 f fd ["_law_source_here", "_law_thing"] spBent := by
  refine F.ok scBent (fun vs H Q E h => ?_) (fun cdv A outer s H vs Q E hr h => ?_)
  · obtain ⟨p, t, b, xs, G, rfl, _⟩ := h
    rfl
  · obtain ⟨p, t, b, xs, G, rfl, gt, lx, hw, hS, hB, hG, hs, q⟩ := h
    have hr1 : Room 1 _ := hr.mono (by decide)
    refine ⟨_, pss_cons (ps_set (i := 2) scBent.nd rfl (Or.inl rfl) (pe_lst (pa_cons pe_non (pa_cons (pe_tup pa_nil) (pa_cons (pe_tup (pa_cons pe_str (pa_cons pe_str pa_nil))) (pa_cons (pe_tup (pa_cons pe_str (pa_cons pe_str (pa_cons pe_str (pa_cons pe_str (pa_cons pe_str pa_nil)))))) (pa_cons (pe_lst (pa_cons pe_str pa_nil)) (pa_cons (pe_tup (pa_cons pe_str pa_nil)) (pa_cons (pe_tup (pa_cons pe_non pa_nil)) (pa_cons pe_str (pa_cons (pe_tup (pa_cons pe_str (pa_cons pe_str pa_nil))) (pa_cons (pe_tup (pa_cons pe_str pa_nil)) pa_nil))))))))))))
        (pss_cons (ps_set (i := 2) scBent.nd rfl (Or.inl rfl) (pe_op op_cat (pv 2) (pe_lst (pa_cons (pe_tup (pa_cons pe_str (pa_cons pe_str pa_nil))) (pa_cons pe_int pa_nil)))))
        (pss_cons (ps_set (i := 3) scBent.nd rfl (Or.inl rfl) (pe_call Gnext hr1 (by rfl) gnext Fnext.kp bnext .nil pass0 (pa_cons (pv 0) (pa_cons pe_int pa_nil))))
        (pss_one (ps_ret (pe_op op_catA (pe_op op_catA (pe_slice sl_tupA (pv 1) po_none (po_some (pv 3))) (pe_tup (pa_cons (pe_call Gpick hr (by rfl) gpick Fpick.kp bpick .nil pass0 (pa_cons (pv 0) (pa_cons (pv 2) pa_nil))) pa_nil))) (pe_slice sl_tupA (pv 1) (po_some (pe_op op_add (pv 3) pe_int)) po_none)))))), ?_⟩
    refine ⟨(by show 0 ≤ PySem.sizeLine; decide), fun o1 ho1 => ?_⟩
    have mo1 := same_new (o := HO.tup []) ho1
    refine ⟨(by show 2 ≤ PySem.sizeLine; decide), fun o2 ho2 => ?_⟩
    have mo2 := same_new (o := HO.tup [.str "a", .str "a"]) ho2
    refine ⟨(by show 5 ≤ PySem.sizeLine; decide), fun o3 ho3 => ?_⟩
    have mo3 := same_new (o := HO.tup [.str "a", .str "b", .str "c", .str "d", .str "e"]) ho3
    refine ⟨(by show 1 ≤ PySem.sizeLine; decide), fun o4 ho4 => ?_⟩
    have mo4 := same_new (o := HO.lst [.str "a"]) ho4
    refine ⟨(by show 1 ≤ PySem.sizeLine; decide), fun o5 ho5 => ?_⟩
    have mo5 := same_new (o := HO.tup [.str "A"]) ho5
    refine ⟨(by show 1 ≤ PySem.sizeLine; decide), fun o6 ho6 => ?_⟩
    have mo6 := same_new (o := HO.tup [.non]) ho6
    refine ⟨(by show 2 ≤ PySem.sizeLine; decide), fun o7 ho7 => ?_⟩
    have mo7 := same_new (o := HO.tup [.str "a", .str ""]) ho7
    refine ⟨(by show 1 ≤ PySem.sizeLine; decide), fun o8 ho8 => ?_⟩
    have mo8 := same_new (o := HO.tup [.str "o"]) ho8
    refine ⟨(by show 10 ≤ PySem.sizeLine; decide), fun oA hoA => ?_⟩
    have moA := same_new (o := HO.lst [.non, .ref o1, .ref o2, .ref o3, .ref o4, .ref o5, .ref o6, .str "a", .ref o7, .ref o8]) hoA
    refine ⟨_, rfl, (by show 2 ≤ PySem.sizeLine; decide), fun o9 ho9 => ?_⟩
    have mo9 := same_new (o := HO.tup [.str "u", .str "u"]) ho9
    refine ⟨(by show 2 ≤ PySem.sizeLine; decide), fun oB hoB => ?_⟩
    have moB := same_new (o := HO.lst [.ref o9, .int 5]) hoB
    refine ⟨oA, oB, _, _, rfl, rfl, (mo9.trans moB) _ _ (upd_of hoA), upd_of hoB, (by show 10 + 2 ≤ PySem.sizeLine; decide), fun O hO => ?_⟩
    have zz := same_new (o := HO.lst ([.non, .ref o1, .ref o2, .ref o3, .ref o4, .ref o5, .ref o6, .str "a", .ref o7, .ref o8] ++ [.ref o9, .int 5])) hO
    have xoB := zz _ _ (upd_of (o := HO.lst [.ref o9, .int 5]) hoB)
    have zoB := moB.trans zz
    have xo9 := zoB _ _ (upd_of (o := HO.tup [.str "u", .str "u"]) ho9)
    have zo9 := mo9.trans zoB
    have xoA := zo9 _ _ (upd_of (o := HO.lst [.non, .ref o1, .ref o2, .ref o3, .ref o4, .ref o5, .ref o6, .str "a", .ref o7, .ref o8]) hoA)
    have zoA := moA.trans zo9
    have xo8 := zoA _ _ (upd_of (o := HO.tup [.str "o"]) ho8)
    have zo8 := mo8.trans zoA
    have xo7 := zo8 _ _ (upd_of (o := HO.tup [.str "a", .str ""]) ho7)
    have zo7 := mo7.trans zo8
    have xo6 := zo7 _ _ (upd_of (o := HO.tup [.non]) ho6)
    have zo6 := mo6.trans zo7
    have xo5 := zo6 _ _ (upd_of (o := HO.tup [.str "A"]) ho5)
    have zo5 := mo5.trans zo6
    have xo4 := zo5 _ _ (upd_of (o := HO.lst [.str "a"]) ho4)
    have zo4 := mo4.trans zo5
    have xo3 := zo4 _ _ (upd_of (o := HO.tup [.str "a", .str "b", .str "c", .str "d", .str "e"]) ho3)
    have zo3 := mo3.trans zo4
    have xo2 := zo3 _ _ (upd_of (o := HO.tup [.str "a", .str "a"]) ho2)
    have zo2 := mo2.trans zo3
    have xo1 := zo2 _ _ (upd_of (o := HO.tup []) ho1)
    have zo1 := mo1.trans zo2
    have xO := upd_of (o := HO.lst ([.non, .ref o1, .ref o2, .ref o3, .ref o4, .ref o5, .ref o6, .str "a", .ref o7, .ref o8] ++ [.ref o9, .int 5])) hO
    have sHC := zo1
    have SC := hS.same sHC
    generalize (upd _ O _) = C at xo1 xo2 xo3 xo4 xo5 xo6 xo7 xo8 xoA xo9 xoB xO sHC SC ⊢
    have wd := okW_mem (l := ["a", "b", "c", "d", "e", "A", "", "o", "u"]) (by decide +kernel)
    have tx : ∀ z ∈ (["a", "b", "c", "d", "e", "A", "", "o", "u"] : List Str), Tw (Nb.del C p) 0 10 (.str z) := fun z hz => tw_str (wd z hz).1 (wd z hz).2
    have odd : ∀ v ∈ ([.non, .ref o1, .ref o2, .ref o3, .ref o4, .ref o5, .ref o6, .str "a", .ref o7, .ref o8] ++ [.ref o9, .int 5] : List V), Tw (Nb.del C p) 2 100 v := fun v hv => by
      simp only [List.mem_append, List.mem_cons, List.not_mem_nil, or_false] at hv
      rcases hv with (rfl | rfl | rfl | rfl | rfl | rfl | rfl | rfl | rfl | rfl) | rfl | rfl
      · exact tw_non
      · refine tw_mono (tw_up (tw_tup (w := 10) (n := 0) (del_tup SC xo1) (by show 0 ≤ 1000; decide) fun x hx => ?_) 1) (by show 11 * 0 ≤ 100; decide)
        exact nomatch hx
      · refine tw_mono (tw_up (tw_tup (w := 10) (n := 0) (del_tup SC xo2) (by show 2 ≤ 1000; decide) fun x hx => ?_) 1) (by show 11 * 2 ≤ 100; decide)
        simp only [List.mem_cons, List.not_mem_nil, or_false] at hx
        rcases hx with rfl | rfl <;> exact tx _ (by simp)
      · refine tw_mono (tw_up (tw_tup (w := 10) (n := 0) (del_tup SC xo3) (by show 5 ≤ 1000; decide) fun x hx => ?_) 1) (by show 11 * 5 ≤ 100; decide)
        simp only [List.mem_cons, List.not_mem_nil, or_false] at hx
        rcases hx with rfl | rfl | rfl | rfl | rfl <;> exact tx _ (by simp)
      · refine tw_mono (tw_up (tw_lst (w := 10) (n := 0) (del_lstS SC xo4) (by show 1 ≤ 1000; decide) fun x hx => ?_) 1) (by show 11 * 1 ≤ 100; decide)
        simp only [List.mem_cons, List.not_mem_nil, or_false] at hx
        rw [hx]
        exact tx _ (by simp)
      · refine tw_mono (tw_up (tw_tup (w := 10) (n := 0) (del_tup SC xo5) (by show 1 ≤ 1000; decide) fun x hx => ?_) 1) (by show 11 * 1 ≤ 100; decide)
        simp only [List.mem_cons, List.not_mem_nil, or_false] at hx
        rw [hx]
        exact tx _ (by simp)
      · refine tw_mono (tw_up (tw_tup (w := 10) (n := 0) (del_tup SC xo6) (by show 1 ≤ 1000; decide) fun x hx => ?_) 1) (by show 11 * 1 ≤ 100; decide)
        simp only [List.mem_cons, List.not_mem_nil, or_false] at hx
        rw [hx]
        exact tw_non
      · exact tw_mono (tw_up (tx _ (by simp)) 2) (by decide)
      · refine tw_mono (tw_up (tw_tup (w := 10) (n := 0) (del_tup SC xo7) (by show 2 ≤ 1000; decide) fun x hx => ?_) 1) (by show 11 * 2 ≤ 100; decide)
        simp only [List.mem_cons, List.not_mem_nil, or_false] at hx
        rcases hx with rfl | rfl <;> exact tx _ (by simp)
      · refine tw_mono (tw_up (tw_tup (w := 10) (n := 0) (del_tup SC xo8) (by show 1 ≤ 1000; decide) fun x hx => ?_) 1) (by show 11 * 1 ≤ 100; decide)
        simp only [List.mem_cons, List.not_mem_nil, or_false] at hx
        rw [hx]
        exact tx _ (by simp)
      · refine tw_mono (tw_up (tw_tup (w := 10) (n := 0) (del_tup SC xo9) (by show 2 ≤ 1000; decide) fun x hx => ?_) 1) (by show 11 * 2 ≤ 100; decide)
        simp only [List.mem_cons, List.not_mem_nil, or_false] at hx
        rcases hx with rfl | rfl <;> exact tx _ (by simp)
      · exact tw_int ⟨by decide +kernel, by decide +kernel, by decide +kernel⟩
    refine ⟨_, rfl, p, 4, _, Nb.del C p, rfl, by decide, by decide, SC, by omega, del_at, del_same, fun H1 k k0 k4 s1 S1 => ?_⟩
    obtain ⟨j, rfl⟩ : ∃ j : Nat, k = (j : Int) := ⟨_, (Int.toNat_of_nonneg k0).symm⟩
    have g1 : Same G H1 := (same_del (hs.trans sHC) hG).trans s1
    have nOp : O ≠ p := by
      intro z
      obtain ⟨c, m, r, e, _⟩ := SC
      rw [z] at xO
      rw [e] at xO
      cases xO
    have xO1 := del_get s1 nOp xO
    refine ⟨_, rfl, noPart ⟨_, rfl, _, rfl, cutT_tup (g1 _ _ gt) fun c1 H2 s2 e2 => ?_⟩⟩
    have g2 := g1.trans s2
    refine ⟨_, rfl, _, rfl, p, O, _, _, Nb.del H2 p, rfl, by rw [del_ne nOp]; exact s2 _ _ xO1, (by show 1 ≤ 12; decide), (by show 12 ≤ 1000; decide), S1.same s2, by omega, del_at, del_same, fun H3 x hx s3 S3 => ?_⟩
    have g3 : Same G H3 := (same_del g2 hG).trans s3
    have d3 : Same (Nb.del C p) (Nb.del H3 p) := (same_del s1 del_at).trans ((del_up s2).trans (same_del s3 del_at))
    have wx := tw_same d3 (odd x hx)
    refine ⟨(by show 1 ≤ PySem.sizeLine; decide), fun c2 h2 => ?_⟩
    have n4 := same_new (o := HO.tup [x]) h2
    have e3 := s3 _ _ (del_tup (S1.same s2) e2)
    have l1 := (cut_sub xs none (some (j : Int))).length_le
    have l2 := (cut_sub xs (some ((j : Int) + 1)) none).length_le
    refine catT_tup (n4 _ _ e3) upd_same (by show _ + 1 ≤ 2000; omega) fun c3 H5 s5 e5 => ?_
    have g5 := g3.trans (n4.trans s5)
    refine ⟨_, rfl, _, rfl, _, _, rfl, rfl, _, rfl, noPart (cutT_tup (g5 _ _ gt) fun c4 H6 s6 e6 => ?_)⟩
    refine catT_tup (s6 _ _ e5) e6 (by rw [List.length_append]; show _ + 1 + _ ≤ 2000; omega) fun c5 H7 s7 e7 => ?_
    have g7 := g5.trans (s6.trans s7)
    have d7 : Same (Nb.del H3 p) (Nb.del H7 p) := (del_up (n4.trans s5)).trans (del_up (s6.trans s7))
    have wt : ∀ y ∈ xs, Tw (Nb.del H7 p) 2 100 y := fun y hy => tw_same (same_del g7 hG) (hw y hy)
    refine q H7 c5 _ g7 e7 (by rw [List.length_append, List.length_append]; show _ + 1 + _ ≤ _; omega) (fun y hy => ?_) ((S3.same (n4.trans (s5.trans (s6.trans s7)))).mono (by omega))
    rcases List.mem_append.mp hy with hy | hy
    · rcases List.mem_append.mp hy with hy | hy
      · exact wt y ((cut_sub xs _ _).subset hy)
      · rw [List.mem_singleton.mp hy]
        exact tw_same d7 wx
    · exact wt y ((cut_sub xs _ _).subset hy)
end
end K03

set_option Elab.async false
set_option maxRecDepth 100000
set_option maxHeartbeats 4000000
namespace Nb
open PySem
open L2 hiding del del_ne del_same
/-- a thing that the law asks, small -/
def Cw (H : Hp) (v : V) : Prop := Tw H 6 (2 ^ 20) v ∨ ∃ a, v = .ref a ∧ H a = some (.dK [])
theorem cw_same {H H' : Hp} (s : Same H H') {v : V} (h : Cw H v) : Cw H' v := by
  rcases h with h | ⟨a, e, h⟩
  · exact .inl (tw_same s h)
  · exact .inr ⟨a, e, s _ _ h⟩
theorem cw_tw {H : Hp} {v : V} {n w : Nat} (h : Tw H n w v) (l : n ≤ 6) (k : w ≤ 2 ^ 20) : Cw H v := by
  have h2 := tw_up h (6 - n)
  rw [show n + (6 - n) = 6 by omega] at h2
  exact .inl (tw_mono h2 k)
theorem okR_told (d : PyData) : okR (2 ^ 20) (toldD d) := by
  unfold toldD
  split
  · exact ⟨rfl, rfl, by simp [PyData.weight]⟩
  · exact ⟨by decide +kernel, by decide +kernel, by decide +kernel⟩
end Nb
namespace K03
open PySem Nb
open L2 hiding del del_ne del_same
abbrev sLaw : Stmt := topT 29
theorem scLaw : FnScope ["_law_script","_law_source_here","_law_some","_law_turn","_law_thing","_law_bent","_law_kept","_law_due"] ["_law_script"] (defScope sLaw) := ⟨rfl, rfl, rfl, by decide +kernel, rfl, by decide +kernel, by decide +kernel⟩
section
variable {P : Program} {w : World} {K : PySem.W.Frag} {mg : Str → Option Value} {base : Heap}
theorem ok_law {f fsource fmethod fbent fis_method fmethH ftold : Addr} {fd fdS fdM fdB fdI fdH fdT : FuncData} (F : Fun K "law" "law" sLaw f fd) (T : Txt mg)
    (Fsource : Fun K "_law_source" "_law_source" sSource fsource fdS) (bsource : Binds K fdS ["_law_script", "_law_k"] []) (gsource : mg "_law_source" = some (.ref fsource)) (Gsource : FnOk P w K mg base CX0 1 fsource fdS ["_law_script", "_law_k"] (spSource K))
    (Fmethod : Fun K "_law_method" "_law_method" sMethod fmethod fdM) (bmethod : Binds K fdM ["_law_source_here"] []) (gmethod : mg "_law_method" = some (.ref fmethod)) (Gmethod : FnOk P w K mg base CX0 4 fmethod fdM ["_law_source_here"] spMethod)
    (Fbent_method : Fun K "_law_bent_method" "_law_bent_method" sBent fbent fdB) (bbent_method : Binds K fdB ["_law_source_here", "_law_thing"] []) (gbent_method : mg "_law_bent_method" = some (.ref fbent)) (Gbent_method : FnOk P w K mg base CX0 3 fbent fdB ["_law_source_here", "_law_thing"] spBent)
    (Fis_method : Fun K "is_method" "is_method" sMeth fis_method fdI) (bis_method : Binds K fdI ["thing"] []) (gis_method : mg "is_method" = some (.ref fis_method)) (Gis_method : FnOk P w K mg base CX0 5 fis_method fdI ["thing"] spM)
    (Fis_method_here : Fun K "_law_is_method_here" "_law_is_method_here" sMethH fmethH fdH) (bis_method_here : Binds K fdH ["_law_thing"] []) (gis_method_here : mg "_law_is_method_here" = some (.ref fmethH)) (Gis_method_here : FnOk P w K mg base CX0 3 fmethH fdH ["_law_thing"] spM)
    (Fstopper_told : Fun K "_law_stopper_told" "_law_stopper_told" sTold ftold fdT) (bstopper_told : Binds K fdT ["_law_thing"] []) (gstopper_told : mg "_law_stopper_told" = some (.ref ftold)) (Gstopper_told : FnOk P w K mg base CX0 7 ftold fdT ["_law_thing"] spTold) :
    RunsG P w K mg base CX0 8 f fd ["_law_script"] (spLaw K) := by
  refine okG F scLaw (fun vs H Q E h => ?_) (fun cdv A outer s H vs Q E gd hr h => ?_)
  · obtain ⟨a, ns, rfl, _⟩ := h
    rfl
  · obtain ⟨a, ns, rfl, hS, hlen, q⟩ := h
    have hr1 : Room 1 _ := hr.mono (by decide)
    have hr3 : Room 3 _ := hr.mono (by decide)
    have hr4 : Room 4 _ := hr.mono (by decide)
    have hr5 : Room 5 _ := hr.mono (by decide)
    have hg : (A.deeper (PyProof.Rows.envOfC "law" (defScope sLaw) s.heap.objs.size f cdv)).guards = some [] := gd
    have hu : (A.deeper (PyProof.Rows.envOfC "law" (defScope sLaw) s.heap.objs.size f cdv)).units + 100 < PySem.cLine := by
      have := hr.un
      omega
    refine ⟨_, pss_cons (ps_set (i := 1) scLaw.nd rfl (Or.inl rfl) (pe_call Gsource hr1 (by rfl) gsource Fsource.kp bsource .nil pass0 (pa_cons (pv 0) (pa_cons pe_int pa_nil))))
        (pss_cons (ps_set (i := 2) scLaw.nd rfl (Or.inl rfl) (pe_lst (pa_cons pe_non (pa_cons pe_int (pa_cons pe_bl (pa_cons pe_str (pa_cons (pe_tup pa_nil) (pa_cons pe_dnewK (pa_cons (pe_lst (pa_cons (pe_tup pa_nil) (pa_cons (pe_tup pa_nil) (pa_cons (pe_tup pa_nil) (pa_cons (pe_tup pa_nil) pa_nil))))) (pa_cons (pe_tup (pa_cons (pe_tup pa_nil) (pa_cons (pe_tup pa_nil) pa_nil))) (pa_cons (pe_tup (pa_cons (pe_tup pa_nil) (pa_cons (pe_tup pa_nil) (pa_cons pe_non (pa_cons (pe_tup pa_nil) (pa_cons (pe_tup pa_nil) pa_nil)))))) (pa_cons (pe_tup (pa_cons (pe_tup pa_nil) (pa_cons (pe_tup pa_nil) (pa_cons pe_non (pa_cons (pe_tup (pa_cons pe_str pa_nil)) pa_nil))))) pa_nil))))))))))))
        (pss_cons (ps_set (i := 2) scLaw.nd rfl (Or.inl rfl) (pe_op op_cat (pv 2) (pe_lst (pa_cons (pe_tup (pa_cons (pe_tup pa_nil) (pa_cons (pe_tup pa_nil) (pa_cons (pe_tup pa_nil) (pa_cons (pe_tup pa_nil) pa_nil))))) (pa_cons (pe_tup (pa_cons (pe_tup pa_nil) (pa_cons (pe_tup pa_nil) (pa_cons pe_non (pa_cons (pe_tup pa_nil) pa_nil))))) (pa_cons (pe_tup (pa_cons (pe_tup (pa_cons pe_str pa_nil)) (pa_cons (pe_tup (pa_cons pe_str (pa_cons pe_str pa_nil))) (pa_cons (pe_tup (pa_cons pe_str pa_nil)) (pa_cons (pe_tup (pa_cons pe_str (pa_cons pe_str (pa_cons pe_str (pa_cons pe_str pa_nil))))) pa_nil))))) pa_nil))))))
        (pss_cons (ps_expr (pe_bm PySem.F.plainAttrs_list PySem.F.slot_list_append PySem.F.type_list_append mt_append (pv 2) (pa_cons (pe_op op_repT (pe_tup (pa_cons pe_non pa_nil)) pe_int) pa_nil)))
        (pss_cons (ps_for PassesOwn.never rfl (pi_range1 (by rfl) T.range (pa_cons pe_int pa_nil)) (pg_name (i := 3) scLaw.nd rfl (Or.inl rfl)) (pss_cons (ps_set (i := 4) scLaw.nd rfl (Or.inl rfl) (pe_call Gmethod hr4 (by rfl) gmethod Fmethod.kp bmethod .nil pass0 (pa_cons (pv 1) pa_nil)))
        (pss_cons (ps_set (i := 5) scLaw.nd rfl (Or.inl rfl) (pe_call Gbent_method hr3 (by rfl) gbent_method Fbent_method.kp bbent_method .nil pass0 (pa_cons (pv 1) (pa_cons (pv 4) pa_nil))))
        (pss_cons (ps_set (i := 2) scLaw.nd rfl (Or.inl rfl) (pe_op op_cat (pv 2) (pe_lst (pa_cons (pv 4) (pa_cons (pv 5) (pa_cons (pe_call Gbent_method hr3 (by rfl) gbent_method Fbent_method.kp bbent_method .nil pass0 (pa_cons (pv 1) (pa_cons (pv 5) pa_nil))) pa_nil))))))
        (pss_one (ps_set (i := 2) scLaw.nd rfl (Or.inl rfl) (pe_op op_cat (pv 2) (pe_lst (pa_cons (pe_callTy call_list_of (by rfl) T.list (by decide +kernel) (pa_cons (pv 4) pa_nil)) (pa_cons (pe_op op_catA (pv 4) (pe_tup (pa_cons (pe_tup pa_nil) pa_nil))) (pa_cons (pe_slice sl_tupA (pv 4) po_none (po_some pe_int)) pa_nil)))))))))))
        (pss_cons (ps_for PassesOwn.never rfl (pi_list (pv 2)) (pg_name (i := 4) scLaw.nd rfl (Or.inl rfl)) (pss_cons (ps_par (i := 6) (j := 7) rfl scLaw.nd rfl rfl (by decide) rfl rfl (pa_cons (pe_callB (cr_reprX hg hu) (by rfl) T.repr (by decide +kernel) (pa_cons (pv 4) pa_nil)) (pa_cons (pe_call Gis_method_here hr3 (by rfl) gis_method_here Fis_method_here.kp bis_method_here .nil pass0 (pa_cons (pv 4) pa_nil)) pa_nil)) rfl)
        (pss_cons (ps_if (pt_cmpR op_ne (pe_callB (cr_reprX hg hu) (by rfl) T.repr (by decide +kernel) (pa_cons (pe_call Gis_method hr5 (by rfl) gis_method Fis_method.kp bis_method .nil pass0 (pa_cons (pv 4) pa_nil)) pa_nil)) (pe_callB (cr_reprX hg hu) (by rfl) T.repr (by decide +kernel) (pa_cons (pv 7) pa_nil)) (nomark _)) (pss_one (ps_ret pe_bl)) pss_nil)
        (pss_one (ps_if (PW.pt (pw_or (pt_cmpR op_ne (pe_callB (cr_reprX hg hu) (by rfl) T.repr (by decide +kernel) (pa_cons (pe_call Gstopper_told hr (by rfl) gstopper_told Fstopper_told.kp bstopper_told .nil pass0 (pa_cons (pv 4) pa_nil)) pa_nil)) (pe_callB (cr_reprX hg hu) (by rfl) T.repr (by decide +kernel) (pa_cons (pe_ifExp (pt_val (pv 7)) (pe_cmpR op_isN (pe_ix ix_tup (pv 4) pe_int (fun _ _ => rfl)) pe_non (nomark _)) (pe_lst (pa_cons pe_non pa_nil))) pa_nil)) (nomark _)) (pw_or1 (pt_cmpR op_ne (pe_callB (cr_reprX hg hu) (by rfl) T.repr (by decide +kernel) (pa_cons (pv 4) pa_nil)) (pv 6) (nomark _))))) (pss_one (ps_ret pe_bl)) pss_nil)))))
        (pss_one (ps_ret pe_bl))))))), ?_⟩
    refine ⟨_, rfl, a, ns, 0, rfl, hS, hlen, by decide, fun H1 p s1 np S1 => ?_⟩
    refine ⟨(by show 0 ≤ PySem.sizeLine; decide), fun t1 ht1 => ?_⟩
    have mt1 := same_new (o := HO.tup []) ht1
    intro d hd
    have md := same_new (o := HO.dK []) hd
    refine ⟨(by show 0 ≤ PySem.sizeLine; decide), fun a1 ha1 => ?_⟩
    have ma1 := same_new (o := HO.tup []) ha1
    refine ⟨(by show 0 ≤ PySem.sizeLine; decide), fun a2 ha2 => ?_⟩
    have ma2 := same_new (o := HO.tup []) ha2
    refine ⟨(by show 0 ≤ PySem.sizeLine; decide), fun a3 ha3 => ?_⟩
    have ma3 := same_new (o := HO.tup []) ha3
    refine ⟨(by show 0 ≤ PySem.sizeLine; decide), fun a4 ha4 => ?_⟩
    have ma4 := same_new (o := HO.tup []) ha4
    refine ⟨(by show 4 ≤ PySem.sizeLine; decide), fun L4 hL4 => ?_⟩
    have mL4 := same_new (o := HO.lst [.ref a1, .ref a2, .ref a3, .ref a4]) hL4
    refine ⟨(by show 0 ≤ PySem.sizeLine; decide), fun b1 hb1 => ?_⟩
    have mb1 := same_new (o := HO.tup []) hb1
    refine ⟨(by show 0 ≤ PySem.sizeLine; decide), fun b2 hb2 => ?_⟩
    have mb2 := same_new (o := HO.tup []) hb2
    refine ⟨(by show 2 ≤ PySem.sizeLine; decide), fun Bt hBt => ?_⟩
    have mBt := same_new (o := HO.tup [.ref b1, .ref b2]) hBt
    refine ⟨(by show 0 ≤ PySem.sizeLine; decide), fun c1 hc1 => ?_⟩
    have mc1 := same_new (o := HO.tup []) hc1
    refine ⟨(by show 0 ≤ PySem.sizeLine; decide), fun c2 hc2 => ?_⟩
    have mc2 := same_new (o := HO.tup []) hc2
    refine ⟨(by show 0 ≤ PySem.sizeLine; decide), fun c3 hc3 => ?_⟩
    have mc3 := same_new (o := HO.tup []) hc3
    refine ⟨(by show 0 ≤ PySem.sizeLine; decide), fun c4 hc4 => ?_⟩
    have mc4 := same_new (o := HO.tup []) hc4
    refine ⟨(by show 5 ≤ PySem.sizeLine; decide), fun Ct hCt => ?_⟩
    have mCt := same_new (o := HO.tup [.ref c1, .ref c2, .non, .ref c3, .ref c4]) hCt
    refine ⟨(by show 0 ≤ PySem.sizeLine; decide), fun e1 he1 => ?_⟩
    have me1 := same_new (o := HO.tup []) he1
    refine ⟨(by show 0 ≤ PySem.sizeLine; decide), fun e2 he2 => ?_⟩
    have me2 := same_new (o := HO.tup []) he2
    refine ⟨(by show 1 ≤ PySem.sizeLine; decide), fun e3 he3 => ?_⟩
    have me3 := same_new (o := HO.tup [.str "a"]) he3
    refine ⟨(by show 4 ≤ PySem.sizeLine; decide), fun Et hEt => ?_⟩
    have mEt := same_new (o := HO.tup [.ref e1, .ref e2, .non, .ref e3]) hEt
    refine ⟨(by show 10 ≤ PySem.sizeLine; decide), fun S0 hS0 => ?_⟩
    have mS0 := same_new (o := HO.lst [.non, .int 5, .bl true, .str "method", .ref t1, .ref d, .ref L4, .ref Bt, .ref Ct, .ref Et]) hS0
    refine ⟨_, rfl, (by show 0 ≤ PySem.sizeLine; decide), fun f1 hf1 => ?_⟩
    have mf1 := same_new (o := HO.tup []) hf1
    refine ⟨(by show 0 ≤ PySem.sizeLine; decide), fun f2 hf2 => ?_⟩
    have mf2 := same_new (o := HO.tup []) hf2
    refine ⟨(by show 0 ≤ PySem.sizeLine; decide), fun f3 hf3 => ?_⟩
    have mf3 := same_new (o := HO.tup []) hf3
    refine ⟨(by show 0 ≤ PySem.sizeLine; decide), fun f4 hf4 => ?_⟩
    have mf4 := same_new (o := HO.tup []) hf4
    refine ⟨(by show 4 ≤ PySem.sizeLine; decide), fun Ft hFt => ?_⟩
    have mFt := same_new (o := HO.tup [.ref f1, .ref f2, .ref f3, .ref f4]) hFt
    refine ⟨(by show 0 ≤ PySem.sizeLine; decide), fun g1 hg1 => ?_⟩
    have mg1 := same_new (o := HO.tup []) hg1
    refine ⟨(by show 0 ≤ PySem.sizeLine; decide), fun g2 hg2 => ?_⟩
    have mg2 := same_new (o := HO.tup []) hg2
    refine ⟨(by show 0 ≤ PySem.sizeLine; decide), fun g3 hg3 => ?_⟩
    have mg3 := same_new (o := HO.tup []) hg3
    refine ⟨(by show 4 ≤ PySem.sizeLine; decide), fun Gt hGt => ?_⟩
    have mGt := same_new (o := HO.tup [.ref g1, .ref g2, .non, .ref g3]) hGt
    refine ⟨(by show 1 ≤ PySem.sizeLine; decide), fun h1 hh1 => ?_⟩
    have mh1 := same_new (o := HO.tup [.str "o"]) hh1
    refine ⟨(by show 2 ≤ PySem.sizeLine; decide), fun h2 hh2 => ?_⟩
    have mh2 := same_new (o := HO.tup [.str "hi", .str "hi"]) hh2
    refine ⟨(by show 1 ≤ PySem.sizeLine; decide), fun h3 hh3 => ?_⟩
    have mh3 := same_new (o := HO.tup [.str "o"]) hh3
    refine ⟨(by show 4 ≤ PySem.sizeLine; decide), fun h4 hh4 => ?_⟩
    have mh4 := same_new (o := HO.tup [.str "a", .str "a", .str "a", .str "a"]) hh4
    refine ⟨(by show 4 ≤ PySem.sizeLine; decide), fun Ht hHt => ?_⟩
    have mHt := same_new (o := HO.tup [.ref h1, .ref h2, .ref h3, .ref h4]) hHt
    refine ⟨(by show 3 ≤ PySem.sizeLine; decide), fun S1l hS1l => ?_⟩
    have mS1l := same_new (o := HO.lst [.ref Ft, .ref Gt, .ref Ht]) hS1l
    have xS1l := upd_of (o := HO.lst [.ref Ft, .ref Gt, .ref Ht]) hS1l
    have zS1l := mS1l
    have xHt := zS1l _ _ (upd_of (o := HO.tup [.ref h1, .ref h2, .ref h3, .ref h4]) hHt)
    have zHt := mHt.trans zS1l
    have xh4 := zHt _ _ (upd_of (o := HO.tup [.str "a", .str "a", .str "a", .str "a"]) hh4)
    have zh4 := mh4.trans zHt
    have xh3 := zh4 _ _ (upd_of (o := HO.tup [.str "o"]) hh3)
    have zh3 := mh3.trans zh4
    have xh2 := zh3 _ _ (upd_of (o := HO.tup [.str "hi", .str "hi"]) hh2)
    have zh2 := mh2.trans zh3
    have xh1 := zh2 _ _ (upd_of (o := HO.tup [.str "o"]) hh1)
    have zh1 := mh1.trans zh2
    have xGt := zh1 _ _ (upd_of (o := HO.tup [.ref g1, .ref g2, .non, .ref g3]) hGt)
    have zGt := mGt.trans zh1
    have xg3 := zGt _ _ (upd_of (o := HO.tup []) hg3)
    have zg3 := mg3.trans zGt
    have xg2 := zg3 _ _ (upd_of (o := HO.tup []) hg2)
    have zg2 := mg2.trans zg3
    have xg1 := zg2 _ _ (upd_of (o := HO.tup []) hg1)
    have zg1 := mg1.trans zg2
    have xFt := zg1 _ _ (upd_of (o := HO.tup [.ref f1, .ref f2, .ref f3, .ref f4]) hFt)
    have zFt := mFt.trans zg1
    have xf4 := zFt _ _ (upd_of (o := HO.tup []) hf4)
    have zf4 := mf4.trans zFt
    have xf3 := zf4 _ _ (upd_of (o := HO.tup []) hf3)
    have zf3 := mf3.trans zf4
    have xf2 := zf3 _ _ (upd_of (o := HO.tup []) hf2)
    have zf2 := mf2.trans zf3
    have xf1 := zf2 _ _ (upd_of (o := HO.tup []) hf1)
    have zf1 := mf1.trans zf2
    have xS0 := zf1 _ _ (upd_of (o := HO.lst [.non, .int 5, .bl true, .str "method", .ref t1, .ref d, .ref L4, .ref Bt, .ref Ct, .ref Et]) hS0)
    have zS0 := mS0.trans zf1
    have xEt := zS0 _ _ (upd_of (o := HO.tup [.ref e1, .ref e2, .non, .ref e3]) hEt)
    have zEt := mEt.trans zS0
    have xe3 := zEt _ _ (upd_of (o := HO.tup [.str "a"]) he3)
    have ze3 := me3.trans zEt
    have xe2 := ze3 _ _ (upd_of (o := HO.tup []) he2)
    have ze2 := me2.trans ze3
    have xe1 := ze2 _ _ (upd_of (o := HO.tup []) he1)
    have ze1 := me1.trans ze2
    have xCt := ze1 _ _ (upd_of (o := HO.tup [.ref c1, .ref c2, .non, .ref c3, .ref c4]) hCt)
    have zCt := mCt.trans ze1
    have xc4 := zCt _ _ (upd_of (o := HO.tup []) hc4)
    have zc4 := mc4.trans zCt
    have xc3 := zc4 _ _ (upd_of (o := HO.tup []) hc3)
    have zc3 := mc3.trans zc4
    have xc2 := zc3 _ _ (upd_of (o := HO.tup []) hc2)
    have zc2 := mc2.trans zc3
    have xc1 := zc2 _ _ (upd_of (o := HO.tup []) hc1)
    have zc1 := mc1.trans zc2
    have xBt := zc1 _ _ (upd_of (o := HO.tup [.ref b1, .ref b2]) hBt)
    have zBt := mBt.trans zc1
    have xb2 := zBt _ _ (upd_of (o := HO.tup []) hb2)
    have zb2 := mb2.trans zBt
    have xb1 := zb2 _ _ (upd_of (o := HO.tup []) hb1)
    have zb1 := mb1.trans zb2
    have xL4 := zb1 _ _ (upd_of (o := HO.lst [.ref a1, .ref a2, .ref a3, .ref a4]) hL4)
    have zL4 := mL4.trans zb1
    have xa4 := zL4 _ _ (upd_of (o := HO.tup []) ha4)
    have za4 := ma4.trans zL4
    have xa3 := za4 _ _ (upd_of (o := HO.tup []) ha3)
    have za3 := ma3.trans za4
    have xa2 := za3 _ _ (upd_of (o := HO.tup []) ha2)
    have za2 := ma2.trans za3
    have xa1 := za2 _ _ (upd_of (o := HO.tup []) ha1)
    have za1 := ma1.trans za2
    have xd := za1 _ _ (upd_of (o := HO.dK []) hd)
    have zd := md.trans za1
    have xt1 := zd _ _ (upd_of (o := HO.tup []) ht1)
    have zt1 := mt1.trans zd
    have SB := S1.same zt1
    have nL4 : L4 ≠ p := by
      intro z
      obtain ⟨_, _, _, e, _⟩ := SB
      rw [← z] at e
      rw [xL4] at e
      cases e
    have nS0 : S0 ≠ p := by
      intro z
      obtain ⟨_, _, _, e, _⟩ := SB
      rw [← z] at e
      rw [xS0] at e
      cases e
    clear zS1l zHt zh4 zh3 zh2 zh1 zGt zg3 zg2 zg1 zFt zf4 zf3 zf2 zf1 zS0 zEt ze3 ze2 ze1 zCt zc4 zc3 zc2 zc1 zBt zb2 zb1 zL4 za4 za3 za2 za1 zd zt1
    clear mS1l mHt mh4 mh3 mh2 mh1 mGt mg3 mg2 mg1 mFt mf4 mf3 mf2 mf1 mS0 mEt me3 me2 me1 mCt mc4 mc3 mc2 mc1 mBt mb2 mb1 mL4 ma4 ma3 ma2 ma1 md mt1
    generalize (upd _ S1l _) = B at xt1 xd xa1 xa2 xa3 xa4 xL4 xb1 xb2 xBt xc1 xc2 xc3 xc4 xCt xe1 xe2 xe3 xEt xS0 xf1 xf2 xf3 xf4 xFt xg1 xg2 xg3 xGt xh1 xh2 xh3 xh4 xHt xS1l SB ⊢
    have wd := okW_mem (l := ["a", "o", "hi", "method"]) (by decide +kernel)
    have tx : ∀ z ∈ (["a", "o", "hi", "method"] : List Str), Tw (Nb.del B p) 0 10 (.str z) := fun z hz => tw_str (wd z hz).1 (wd z hz).2
    have t0 : ∀ {u : Addr}, B u = some (.tup []) → Tw (Nb.del B p) 1 60 (.ref u) := fun e => tw_mono (tw_tup (w := 0) (n := 0) (del_tup SB e) (by decide) (fun x hx => nomatch hx)) (by decide)
    have tt : ∀ {u : Addr} {xs : List V}, B u = some (.tup xs) → xs.length ≤ 5 → (∀ x ∈ xs, Tw (Nb.del B p) 0 10 x) → Tw (Nb.del B p) 1 60 (.ref u) := fun e l k => tw_mono (tw_tup (del_tup SB e) (by omega) k) (by omega)
    have t2 : ∀ {u : Addr} {xs : List V}, B u = some (.tup xs) → xs.length ≤ 5 → (∀ x ∈ xs, Tw (Nb.del B p) 1 60 x) → Cw (Nb.del B p) (.ref u) := fun e l k => cw_tw (tw_mono (tw_tup (del_tup SB e) (by omega) k) (show _ ≤ 61 * 5 by omega)) (by decide) (by decide)
    have items : ∀ v ∈ ([.non, .int 5, .bl true, .str "method", .ref t1, .ref d, .ref L4, .ref Bt, .ref Ct, .ref Et] ++ [.ref Ft, .ref Gt, .ref Ht] : List V), Cw (Nb.del B p) v := fun v hv => by
      simp only [List.mem_append, List.mem_cons, List.not_mem_nil, or_false] at hv
      rcases hv with (rfl | rfl | rfl | rfl | rfl | rfl | rfl | rfl | rfl | rfl) | rfl | rfl | rfl
      · exact .inl tw_non
      · exact .inl (tw_int ⟨by decide +kernel, by decide +kernel, by decide +kernel⟩)
      · exact .inl (tw_bl _)
      · exact cw_tw (tx _ (by simp)) (by decide) (by decide)
      · exact cw_tw (t0 xt1) (by decide) (by decide)
      · refine .inr ⟨d, rfl, ?_⟩
        rw [del_ne (src_ne SB xd (fun xs z => by cases z))]
        exact xd
      · refine cw_tw (tw_lst (w := 60) (n := 1) (a := L4) (xs := [.ref a1, .ref a2, .ref a3, .ref a4]) (by rw [del_ne nL4]; exact xL4) (by show 4 ≤ 1000; decide) fun x hx => ?_) (by decide) (by show 61 * 4 ≤ 2 ^ 20; decide)
        simp only [List.mem_cons, List.not_mem_nil, or_false] at hx
        rcases hx with rfl | rfl | rfl | rfl
        · exact t0 xa1
        · exact t0 xa2
        · exact t0 xa3
        · exact t0 xa4
      · refine t2 xBt (by show 2 ≤ 5; decide) fun x hx => ?_
        simp only [List.mem_cons, List.not_mem_nil, or_false] at hx
        rcases hx with rfl | rfl
        · exact t0 xb1
        · exact t0 xb2
      · refine t2 xCt (by show 5 ≤ 5; decide) fun x hx => ?_
        simp only [List.mem_cons, List.not_mem_nil, or_false] at hx
        rcases hx with rfl | rfl | rfl | rfl | rfl
        · exact t0 xc1
        · exact t0 xc2
        · exact tw_non
        · exact t0 xc3
        · exact t0 xc4
      · refine t2 xEt (by show 4 ≤ 5; decide) fun x hx => ?_
        simp only [List.mem_cons, List.not_mem_nil, or_false] at hx
        rcases hx with rfl | rfl | rfl | rfl
        · exact t0 xe1
        · exact t0 xe2
        · exact tw_non
        · exact tt xe3 (by show 1 ≤ 5; decide) fun x hx => by
              rw [List.mem_singleton.mp hx]
              exact tx _ (by simp)
      · refine t2 xFt (by show 4 ≤ 5; decide) fun x hx => ?_
        simp only [List.mem_cons, List.not_mem_nil, or_false] at hx
        rcases hx with rfl | rfl | rfl | rfl
        · exact t0 xf1
        · exact t0 xf2
        · exact t0 xf3
        · exact t0 xf4
      · refine t2 xGt (by show 4 ≤ 5; decide) fun x hx => ?_
        simp only [List.mem_cons, List.not_mem_nil, or_false] at hx
        rcases hx with rfl | rfl | rfl | rfl
        · exact t0 xg1
        · exact t0 xg2
        · exact tw_non
        · exact t0 xg3
      · refine t2 xHt (by show 4 ≤ 5; decide) fun x hx => ?_
        simp only [List.mem_cons, List.not_mem_nil, or_false] at hx
        rcases hx with rfl | rfl | rfl | rfl
        · exact tt xh1 (by show 1 ≤ 5; decide) fun x hx => by
              simp only [List.mem_cons, List.not_mem_nil, or_false] at hx
              subst hx; exact tx _ (by simp)
        · exact tt xh2 (by show 2 ≤ 5; decide) fun x hx => by
              simp only [List.mem_cons, List.not_mem_nil, or_false] at hx
              rcases hx with rfl | rfl <;> exact tx _ (by simp)
        · exact tt xh3 (by show 1 ≤ 5; decide) fun x hx => by
              simp only [List.mem_cons, List.not_mem_nil, or_false] at hx
              subst hx; exact tx _ (by simp)
        · exact tt xh4 (by show 4 ≤ 5; decide) fun x hx => by
              simp only [List.mem_cons, List.not_mem_nil, or_false] at hx
              rcases hx with rfl | rfl | rfl | rfl <;> exact tx _ (by simp)
    refine ⟨S0, S1l, _, _, rfl, rfl, xS0, xS1l, (by show 10 + 3 ≤ PySem.sizeLine; decide), fun S2 hS2 => ?_⟩
    have nS2 : S2 ≠ p := src_fresh SB hS2
    have mS2 := same_new (o := HO.lst ([.non, .int 5, .bl true, .str "method", .ref t1, .ref d, .ref L4, .ref Bt, .ref Ct, .ref Et] ++ [.ref Ft, .ref Gt, .ref Ht])) hS2
    have eS2 := upd_of (o := HO.lst ([.non, .int 5, .bl true, .str "method", .ref t1, .ref d, .ref L4, .ref Bt, .ref Ct, .ref Et] ++ [.ref Ft, .ref Gt, .ref Ht])) hS2
    refine ⟨_, rfl, .inl ⟨rfl, _, SqL.of eS2⟩, (by show 1 ≤ PySem.sizeLine; decide), fun j1 hj1 => ?_⟩
    have mj1 := same_new (o := HO.tup [.non]) hj1
    refine ⟨j1, 4, [.non], rfl, rfl, SqT.of upd_same, by simp, by decide, by decide, by decide, fun j2 hj2 => ?_⟩
    have mj2 := same_new (o := HO.tup (List.replicate (4 : Int).toNat [V.non]).flatten) hj2
    refine ⟨S2, _, _, rfl, rfl, mj2 _ _ (mj1 _ _ eS2), (by show 13 < PySem.sizeLine; decide), ?_⟩
    have sBC := same_at (o := HO.lst (([.non, .int 5, .bl true, .str "method", .ref t1, .ref d, .ref L4, .ref Bt, .ref Ct, .ref Et] ++ [.ref Ft, .ref Gt, .ref Ht]) ++ [.ref j2])) ((mS2.trans mj1).trans mj2) hS2
    have nj2 : j2 ≠ S2 := (ne_of_none (mj1 _ _ eS2) hj2).symm
    have ej2 : (upd (upd (upd (upd B S2 (.lst ([.non, .int 5, .bl true, .str "method", .ref t1, .ref d, .ref L4, .ref Bt, .ref Ct, .ref Et] ++ [.ref Ft, .ref Gt, .ref Ht]))) j1 (.tup [.non])) j2 (.tup (List.replicate (4 : Int).toNat [V.non]).flatten)) S2 (.lst (([.non, .int 5, .bl true, .str "method", .ref t1, .ref d, .ref L4, .ref Bt, .ref Ct, .ref Et] ++ [.ref Ft, .ref Gt, .ref Ht]) ++ [.ref j2]))) j2 = some (.tup [.non, .non, .non, .non]) := by
      rw [upd_ne nj2]
      exact upd_same
    have eS3 : (upd (upd (upd (upd B S2 (.lst ([.non, .int 5, .bl true, .str "method", .ref t1, .ref d, .ref L4, .ref Bt, .ref Ct, .ref Et] ++ [.ref Ft, .ref Gt, .ref Ht]))) j1 (.tup [.non])) j2 (.tup (List.replicate (4 : Int).toNat [V.non]).flatten)) S2 (.lst (([.non, .int 5, .bl true, .str "method", .ref t1, .ref d, .ref L4, .ref Bt, .ref Ct, .ref Et] ++ [.ref Ft, .ref Gt, .ref Ht]) ++ [.ref j2]))) S2 = some (.lst (([.non, .int 5, .bl true, .str "method", .ref t1, .ref d, .ref L4, .ref Bt, .ref Ct, .ref Et] ++ [.ref Ft, .ref Gt, .ref Ht]) ++ [.ref j2])) := upd_same
    generalize (upd _ S2 (.lst (([.non, .int 5, .bl true, .str "method", .ref t1, .ref d, .ref L4, .ref Bt, .ref Ct, .ref Et] ++ [.ref Ft, .ref Gt, .ref Ht]) ++ [.ref j2]))) = C at sBC ej2 eS3 ⊢
    have SC := SB.same sBC
    have items2 : ∀ v ∈ (([.non, .int 5, .bl true, .str "method", .ref t1, .ref d, .ref L4, .ref Bt, .ref Ct, .ref Et] ++ [.ref Ft, .ref Gt, .ref Ht]) ++ [.ref j2] : List V), Cw (Nb.del C p) v := fun v hv => by
      rcases List.mem_append.mp hv with hv | hv
      · exact cw_same (del_up sBC) (items v hv)
      · rw [List.mem_singleton.mp hv]
        refine cw_tw (tw_tup (w := 0) (n := 0) (del_tup SC ej2) (by show 4 ≤ 1000; decide) fun x hx => ?_) (by decide) (by show 4 ≤ 2 ^ 20; decide)
        simp only [List.mem_cons, List.not_mem_nil, or_false] at hx
        rcases hx with rfl | rfl | rfl | rfl <;> exact tw_non
    have len14 : (([.non, .int 5, .bl true, .str "method", .ref t1, .ref d, .ref L4, .ref Bt, .ref Ct, .ref Et] ++ [.ref Ft, .ref Gt, .ref Ht]) ++ [.ref j2] : List V).length = 14 := rfl
    generalize (([.non, .int 5, .bl true, .str "method", .ref t1, .ref d, .ref L4, .ref Bt, .ref Ct, .ref Et] ++ [.ref Ft, .ref Gt, .ref Ht]) ++ [.ref j2] : List V) = zs0 at eS3 items2 len14
    refine ⟨12, rfl, by decide, by decide, for_range (lo := 0) (n := (12 : Int).toNat) (fun i σ H' => ∃ v3 v4 v5 o zs, σ = [some (.ref a), some (.ref p), some (.ref o), v3, v4, v5, none, none] ∧ H' o = some (.lst zs) ∧ o ≠ p ∧ zs.length ≤ 14 + 6 * i ∧ (∀ v ∈ zs, Cw (Nb.del H' p) v) ∧ Src H' p (100 * i)) ?_ ?_ ?_⟩
    · exact ⟨_, _, _, S2, zs0, rfl, eS3, nS2, by omega, items2, SC.mono (by omega)⟩
    · rintro i σ H2 hi ⟨v3, v4, v5, o, zs, rfl, eo, no, lz, hz, S2'⟩
      have hi12 : i < 12 := hi
      refine ⟨_, rfl, p, _, Nb.del H2 p, rfl, S2', by omega, del_at, del_same, fun H3 t xs s3 et lx wx S3 => ?_⟩
      refine ⟨_, rfl, _, rfl, p, t, _, xs, Nb.del H3 p, rfl, del_tup S3 et, by omega, wx, S3, by omega, del_at, del_same, fun H4 u ys s4 eu ly wy S4 => ?_⟩
      have eo4 := del_get s4 no (del_get s3 no eo)
      refine ⟨_, rfl, _, rfl, _, rfl, _, rfl, _, rfl, p, u, _, ys, Nb.del H4 p, rfl, del_tup S4 eu, by omega, wy, S4, by omega, del_at, del_same, fun H5 v zs5 s5 ev lv wv S5 => ?_⟩
      have eo5 := del_get s5 no eo4
      refine ⟨(by show 3 ≤ PySem.sizeLine; decide), fun l6 h6 => ?_⟩
      have m6 := same_new (o := HO.lst [.ref t, .ref u, .ref v]) h6
      refine ⟨o, l6, zs, [.ref t, .ref u, .ref v], rfl, rfl, m6 _ _ eo5, upd_same, Nat.le_of_lt (small1000 (by show zs.length + 3 ≤ 1000; omega)), fun o2 ho2 => ?_⟩
      have m7 := same_new (o := HO.lst (zs ++ [.ref t, .ref u, .ref v])) ho2
      have et5 : H5 t = some (.tup xs) := by
        have e1 := del_tup S3 et
        have e2 := s4 _ _ e1
        exact s5 _ _ (del_tup S4 e2)
      refine ⟨_, rfl, _, rfl, t, xs, rfl, .inr (SqT.of (m7 _ _ (m6 _ _ et5))), fun l8 h8 => ?_⟩
      have m8 := same_new (o := HO.lst xs) h8
      refine ⟨_, rfl, Nat.zero_le _, fun u1 hu1 => ?_⟩
      have m9 := same_new (o := HO.tup []) hu1
      refine ⟨(by show 1 ≤ PySem.sizeLine; decide), fun u2 hu2 => ?_⟩
      have m10 := same_new (o := HO.tup [.ref u1]) hu2
      have m610 := (m6.trans m7).trans (m8.trans (m9.trans m10))
      refine catT_tup (m610 _ _ et5) upd_same (by show xs.length + 1 ≤ 2000; omega) fun c3 H11 s11 e11 => ?_
      refine ⟨_, rfl, noPart ⟨_, rfl, cutT_tup ((m610.trans s11) _ _ et5) fun c4 H12 s12 e12 => ?_⟩⟩
      refine ⟨(by show 3 ≤ PySem.sizeLine; decide), fun l13 h13 => ?_⟩
      have m13 := same_new (o := HO.lst [.ref l8, .ref c3, .ref c4]) h13
      have m813 := (m8.trans (m9.trans m10)).trans (s11.trans (s12.trans m13))
      refine ⟨o2, l13, zs ++ [.ref t, .ref u, .ref v], [.ref l8, .ref c3, .ref c4], rfl, rfl, m813 _ _ upd_same, upd_same, Nat.le_of_lt (small1000 (by rw [List.length_append]; show zs.length + 3 + 3 ≤ 1000; omega)), fun o3 ho3 => ?_⟩
      have m14 := same_new (o := HO.lst ((zs ++ [.ref t, .ref u, .ref v]) ++ [.ref l8, .ref c3, .ref c4])) ho3
      have m614 := (m6.trans m7).trans (m813.trans m14)
      have SF := S5.same m614
      have dF := del_up (p := p) m614
      have d25 : Same (Nb.del H2 p) (Nb.del H5 p) := ((same_del s3 del_at).trans (same_del s4 del_at)).trans (same_del s5 del_at)
      have d35 : Same (Nb.del H3 p) (Nb.del H5 p) := (same_del s4 del_at).trans (same_del s5 del_at)
      have d45 : Same (Nb.del H4 p) (Nb.del H5 p) := same_del s5 del_at
      have tup3 : ∀ {c : Addr} {ws : List V} {D : Hp}, D c = some (.tup ws) → ws.length ≤ 50 → (∀ x ∈ ws, Tw D 2 100 x) → Cw D (.ref c) := fun e l k => cw_tw (tw_mono (tw_tup e (by omega) k) (show _ ≤ 101 * 50 by have := Nat.mul_le_mul_left 101 l; omega)) (by decide) (by decide)
      have wxF : ∀ x ∈ xs, Tw (Nb.del (upd _ o3 _) p) 2 100 x := fun x hx => tw_same (d35.trans dF) (wx x hx)
      have nl8 : l8 ≠ p := src_fresh ((S5.same m6).same m7) h8
      have lc := (cut_sub xs none (some (3 : Int))).length_le
      refine ⟨_, _, _, o3, _, rfl, upd_same, src_fresh ((S5.same (m6.trans m7)).same m813) ho3, by rw [List.length_append, List.length_append]; show zs.length + 3 + 3 ≤ _; omega, fun z hz' => ?_, SF.mono (by omega)⟩
      rcases List.mem_append.mp hz' with hz' | hz'
      · rcases List.mem_append.mp hz' with hz' | hz'
        · exact cw_same (d25.trans dF) (hz z hz')
        · simp only [List.mem_cons, List.not_mem_nil, or_false] at hz'
          rcases hz' with rfl | rfl | rfl
          · exact tup3 (del_tup SF (m614 _ _ et5)) (by omega) wxF
          · exact tup3 (dF _ _ (d45 _ _ (del_tup S4 eu))) (by omega) fun x hx => tw_same (d45.trans dF) (wy x hx)
          · exact tup3 (dF _ _ (del_tup S5 ev)) (by omega) fun x hx => tw_same dF (wv x hx)
      · simp only [List.mem_cons, List.not_mem_nil, or_false] at hz'
        rcases hz' with rfl | rfl | rfl
        · refine cw_tw (tw_lst (w := 100) (n := 2) (a := l8) (xs := xs) ?_ (by omega) wxF) (by decide) (by rw [lx]; decide)
          rw [del_ne nl8]
          exact (((m9.trans m10).trans (s11.trans (s12.trans m13))).trans m14) _ _ upd_same
        · refine tup3 (del_tup SF ((s12.trans (m13.trans m14)) _ _ e11)) (by rw [List.length_append]; show xs.length + 1 ≤ 50; omega) fun x hx => ?_
          rcases List.mem_append.mp hx with hx | hx
          · exact wxF x hx
          · rw [List.mem_singleton.mp hx]
            exact tw_mono (tw_up (tw_tup (w := 0) (n := 0) (xs := []) (del_tup SF ((m10.trans (s11.trans (s12.trans (m13.trans m14)))) _ _ upd_same)) (by decide) (fun x hx => nomatch hx)) 1) (by decide)
        · exact tup3 (del_tup SF ((m13.trans m14) _ _ e12)) (by omega) fun x hx => wxF x ((cut_sub xs _ _).subset hx)
    · rintro σ H2 ⟨v3, v4, v5, o, zs, rfl, eo, no, lz, hz, S2'⟩
      refine ⟨_, rfl, o, rfl, ⟨_, SqL.of eo⟩, for_list (K := K) (a := o) (xs := zs) (fun i σ H' => ∃ v4 v6 v7, σ = [some (.ref a), some (.ref p), some (.ref o), v3, v4, v5, v6, v7] ∧ Same H2 H') ⟨_, _, _, rfl, Same.refl _⟩ (fun i σ H' _ ⟨_, _, _, _, s3⟩ => SqL.of (s3 _ _ eo)) ?_ ?_⟩
      · rintro i x σ H3 hx ⟨w4, w6, w7, rfl, s3⟩
        have cx : Cw H3 x := cw_same (del_same.trans s3) (hz x (List.mem_of_getElem? hx))
        have okb : ∀ b : Bool, okR (2 ^ 20) (.bool b) := fun b => ⟨rfl, rfl, by simp [PyData.weight]⟩
        rcases cx with ⟨d, td, ok⟩ | ⟨e, rfl, he⟩
        · have cl : Cl H3 x d := .inl td
          refine ⟨_, rfl, .inl ⟨x, d, 6, rfl, td_same (Same.refl H3) td, by decide, ok, ⟨_, rfl, x, d, rfl, cl, fun H4 s4 => ⟨_, _, rfl, ?_⟩⟩⟩⟩
          refine ⟨_, rfl, x, d, rfl, cl_same s4 cl, fun H5 s5 => .inl ⟨.bl _, .bool _, 0, rfl, .bl _, by decide, okb _, ⟨_, rfl, .inl ⟨.bl _, .bool _, 0, rfl, .bl _, by decide, okb _, ⟨rfl, _, rfl, ?_⟩⟩⟩⟩⟩
          refine iteNS rfl ?_
          have s35 := s4.trans s5
          refine ⟨_, rfl, x, d, rfl, cl_same s35 cl, fun H6 y s6 ty => .inl ⟨y, toldD d, 1, rfl, ty, by decide, okR_told d, ?_⟩⟩
          have s36 := s35.trans s6
          have cl6 := cl_same s36 cl
          refine ⟨_, rfl, _, rfl, ?_⟩
          cases hm : methD d with
          | true =>
            have tb : toldD d = .bool (stopD d) := by
              unfold toldD
              rw [if_pos hm]
            rw [tb]
            rcases td_cl (K := K) cl6 with ⟨c, xs, ds, ec, ed, e, l, ts⟩ | ⟨e0, _⟩
            · have h4 : xs.length = 4 := by
                rw [tds_len ts]
                by_cases h : ds.length = 4
                · exact h
                · rw [ed, meth_len h] at hm
                  cases hm
              have x4 : ∃ x3, xs[2]? = some x3 ∧ decide (x3 = .non) = stopD d := by
                match xs, h4, ts, ed with
                | [x1, x2, x3, x4], _, .cons (d := d1) k1 (.cons (d := d2) k2 (.cons (d := d3) k3 (.cons (d := d4) k4 .nil))), ed =>
                  refine ⟨x3, rfl, ?_⟩
                  rw [ed]
                  cases k3 <;> rfl
              obtain ⟨x3, g3, e3⟩ := x4
              refine iteT ⟨_, rfl, c, _, _, x3, ec, rfl, SqT.of e, atI_nat (j := 2) g3, rfl, ?_⟩
              rw [e3]
              refine .inl ⟨.bl _, .bool _, 0, rfl, .bl _, by decide, okb _, ⟨rfl, _, rfl, ?_⟩⟩
              refine iteNS rfl ?_
              refine ⟨_, rfl, .inl ⟨x, d, 6, rfl, td_same (s36) td, by decide, ok, ⟨_, rfl, rfl, _, rfl, ?_⟩⟩⟩
              refine iteNS rfl ?_
              exact ⟨_, _, _, rfl, s3.trans s36⟩
            · rw [e0] at hm
              cases hm
          | false =>
            have tb : toldD d = .list [.none] := by
              unfold toldD
              rw [if_neg (by rw [hm]; exact fun z => nomatch z)]
            rw [tb]
            refine iteF ⟨(by show 1 ≤ PySem.sizeLine; decide), fun l hl => ?_⟩
            have m7 := same_new (o := HO.lst [.non]) hl
            refine .inl ⟨.ref l, .list [.none], 1, rfl, .lst upd_same (by show 1 ≤ 1000; decide) (.cons .non .nil), by decide, ⟨by decide +kernel, by decide +kernel, by decide +kernel⟩, rfl, _, rfl, ?_⟩
            refine iteNS rfl ?_
            refine ⟨_, rfl, .inl ⟨x, d, 6, rfl, td_same (s36.trans m7) td, by decide, ok, ⟨_, rfl, rfl, _, rfl, ?_⟩⟩⟩
            refine iteNS rfl ?_
            exact ⟨_, _, _, rfl, s3.trans (s36.trans m7)⟩
        · obtain ⟨x, ex⟩ : ∃ x : V, x = .ref e := ⟨_, rfl⟩
          rw [← ex]
          obtain ⟨d, ed⟩ : ∃ d : PyData, d = .dict [] := ⟨_, rfl⟩
          have cl : Cl H3 x d := .inr ⟨ed, e, ex, he⟩
          have hm0 : methD d = false := by rw [ed]; rfl
          refine ⟨_, rfl, .inr ⟨e, by rw [ex], (Same.refl H3) _ _ he, ⟨_, rfl, x, d, rfl, cl, fun H4 s4 => ⟨_, _, rfl, ?_⟩⟩⟩⟩
          refine ⟨_, rfl, x, d, rfl, cl_same s4 cl, fun H5 s5 => .inl ⟨.bl _, .bool _, 0, rfl, .bl _, by decide, okb _, ⟨_, rfl, .inl ⟨.bl _, .bool _, 0, rfl, .bl _, by decide, okb _, ⟨rfl, _, rfl, ?_⟩⟩⟩⟩⟩
          refine iteNS rfl ?_
          have s35 := s4.trans s5
          refine ⟨_, rfl, x, d, rfl, cl_same s35 cl, fun H6 y s6 ty => .inl ⟨y, toldD d, 1, rfl, ty, by decide, okR_told d, ?_⟩⟩
          have s36 := s35.trans s6
          have cl6 := cl_same s36 cl
          refine ⟨_, rfl, _, rfl, ?_⟩
          cases hm : methD d with
          | true =>
            exact absurd (hm0.symm.trans hm) (by decide)
          | false =>
            have tb : toldD d = .list [.none] := by
              unfold toldD
              rw [if_neg (by rw [hm]; exact fun z => nomatch z)]
            rw [tb]
            refine iteF ⟨(by show 1 ≤ PySem.sizeLine; decide), fun l hl => ?_⟩
            have m7 := same_new (o := HO.lst [.non]) hl
            refine .inl ⟨.ref l, .list [.none], 1, rfl, .lst upd_same (by show 1 ≤ 1000; decide) (.cons .non .nil), by decide, ⟨by decide +kernel, by decide +kernel, by decide +kernel⟩, rfl, _, rfl, ?_⟩
            refine iteNS rfl ?_
            refine ⟨_, rfl, .inr ⟨e, by rw [ex], (s36.trans m7) _ _ he, ⟨_, rfl, rfl, _, rfl, ?_⟩⟩⟩
            refine iteNS rfl ?_
            exact ⟨_, _, _, rfl, s3.trans (s36.trans m7)⟩
      · rintro σ H3 ⟨w4, w6, w7, rfl, s3⟩
        exact q _
end
end K03

set_option Elab.async false
set_option maxRecDepth 100000
set_option maxHeartbeats 8000000
namespace K03
open PySem Nb
open L2 hiding del del_ne del_same
theorem all_mk {l : PySem.W.OpenLaw} {w : World} {K : PySem.W.Frag} {h : Heap} {mg : Str → Option Value} {fa f1 f2 f3 f4 f5 f6 f7 f8 f9 f10 f11 f12 f13 f14 f15 f16 f17 f18 f19 f20 : Addr} (X : K.In h) (G : h.Ns mainGlobals mg) (hfa : mg "law" = some (.ref fa))
    {od1 an1 od2 an2 od3 an3 od4 an4 od5 an5 od6 an6 od7 an7 od8 an8 od9 an9 od10 an10 od11 an11 od12 an12 od13 an13 od14 an14 od15 an15 od16 an16 od17 an17 od18 an18 od19 an19 od20 an20 : Option Addr}
    {sl1 sl2 sl3 sl4 sl5 sl6 sl7 sl8 sl9 sl10 sl11 sl12 sl13 sl14 sl15 sl16 sl17 sl18 sl19 sl20 : Array (Option Value)}
    {oc1 kV1 dc1 pm1 cd1 ct1 oc2 kV2 dc2 pm2 cd2 ct2 oc3 kV3 dc3 pm3 cd3 ct3 oc4 kV4 dc4 pm4 cd4 ct4 oc5 kV5 dc5 pm5 cd5 ct5 oc6 kV6 dc6 pm6 cd6 ct6 oc7 kV7 dc7 pm7 cd7 ct7 oc8 kV8 dc8 pm8 cd8 ct8 oc9 kV9 dc9 pm9 cd9 ct9 oc10 kV10 dc10 pm10 cd10 ct10 oc11 kV11 dc11 pm11 cd11 ct11 oc12 kV12 dc12 pm12 cd12 ct12 oc13 kV13 dc13 pm13 cd13 ct13 oc14 kV14 dc14 pm14 cd14 ct14 oc15 kV15 dc15 pm15 cd15 ct15 oc16 kV16 dc16 pm16 cd16 ct16 oc17 kV17 dc17 pm17 cd17 ct17 oc18 kV18 dc18 pm18 cd18 ct18 oc19 kV19 dc19 pm19 cd19 ct19 oc20 kV20 dc20 pm20 cd20 ct20 : Value}
    {C CW fI : Addr} {nm q : Str} {N : Addr} {bs : List Value} {sn : List Str} {sub : List Value} {ab : Bool} {col : Option Bool} {dd : Option Addr} {m0 m1 m2 m3 m5 : Option Value} {odI anI : Option Addr} {slI : Array (Option Value)} {ocI kVI dcI pmI cdI ctI : Value}
    (aC : PySem.W.nsIn K mainGlobals "BadMethod" = some (some (.ref C))) (aW : PySem.W.nsIn K mainGlobals "WorldError" = some (some (.ref CW))) (xL : K.lookup C = some (excClassObj nm q C N bs [.ref CW, .type "ValueError", .type "Exception", .type "BaseException", .type "object"] true sn sub ab col dd m0 m1 m2 m3 m5 "ValueError.__new__")) (saC : PySem.W.findIn K (.ref C) "__setattr__" = some (some (.builtin "object.__setattr__"))) (gaC : PySem.W.findIn K (.ref C) "__getattribute__" = some (some (.builtin "BaseException.__getattribute__"))) (ggC : PySem.W.findIn K (.ref C) "__getattr__" = some none) (nC : PySem.W.findIn K (.ref C) "name" = some none) (iC : PySem.W.findIn K (.ref C) "__init__" = some (some (.ref fI))) (tI : PySem.W.typeIn K (.ref fI) = some (.type "function")) (lI : K.lookup fI = some ⟨ocI, odI, .func (PySem.W.fnOf "__init__" "BadMethod.__init__" (defArgs sInit) (defBody sInit) (defScope sInit) .none kVI dcI pmI anI cdI ctI), slI⟩) (cI : PySem.W.codeIn K cdI "BadMethod.__init__" = true) (kI : PySem.W.keepIn K (.ref fI) = true) (kC : PySem.W.keepIn K (.ref C) = true) (eC : PySem.W.subIn K (.ref C) (.type "BaseException") = some true) (tC : PySem.W.typeIn K (.ref C) = some (.type "type")) (hC : PySem.W.hasDictIn K C = true) (clC : PySem.W.findIn K (.ref C) "__class__" = some (some (.builtin "object.__class__"))) (ogC : PySem.W.specialIn K (.builtin "object.__class__") "__get__" = some (some (.builtin "getset_descriptor.__get__"))) (otC : PySem.W.takesIn K (.builtin "object.__class__") = some true) (moC : PySem.W.mroIn K C (.type "object") = some true) (kkC : PySem.W.kitOne K (.ref C) (.ref C) = some true) (eW : PySem.W.subIn K (.ref CW) (.type "BaseException") = some true) (hW : PySem.W.hasDictIn K CW = true) (tW : PySem.W.typeIn K (.ref CW) = some (.type "type")) (sCW : PySem.W.subIn K (.ref C) (.ref CW) = some true)
    (a1 : PySem.W.nsIn K mainGlobals "is_name" = some (some (.ref f1))) (l1 : K.lookup f1 = some ⟨oc1, od1, .func (PySem.W.fnOf "is_name" "is_name" (defArgs sName) (defBody sName) (defScope sName) .none kV1 dc1 pm1 an1 cd1 ct1), sl1⟩) (c1 : PySem.W.codeIn K cd1 "is_name" = true) (k1 : PySem.W.keepIn K (.ref f1) = true)
    (a2 : PySem.W.nsIn K mainGlobals "are_names" = some (some (.ref f2))) (l2 : K.lookup f2 = some ⟨oc2, od2, .func (PySem.W.fnOf "are_names" "are_names" (defArgs sNames) (defBody sNames) (defScope sNames) .none kV2 dc2 pm2 an2 cd2 ct2), sl2⟩) (c2 : PySem.W.codeIn K cd2 "are_names" = true) (k2 : PySem.W.keepIn K (.ref f2) = true)
    (a3 : PySem.W.nsIn K mainGlobals "are_different_names" = some (some (.ref f3))) (l3 : K.lookup f3 = some ⟨oc3, od3, .func (PySem.W.fnOf "are_different_names" "are_different_names" (defArgs sDiff) (defBody sDiff) (defScope sDiff) .none kV3 dc3 pm3 an3 cd3 ct3), sl3⟩) (c3 : PySem.W.codeIn K cd3 "are_different_names" = true) (k3 : PySem.W.keepIn K (.ref f3) = true)
    (a4 : PySem.W.nsIn K mainGlobals "is_row" = some (some (.ref f4))) (l4 : K.lookup f4 = some ⟨oc4, od4, .func (PySem.W.fnOf "is_row" "is_row" (defArgs sRow) (defBody sRow) (defScope sRow) .none kV4 dc4 pm4 an4 cd4 ct4), sl4⟩) (c4 : PySem.W.codeIn K cd4 "is_row" = true) (k4 : PySem.W.keepIn K (.ref f4) = true)
    (a5 : PySem.W.nsIn K mainGlobals "is_method" = some (some (.ref f5))) (l5 : K.lookup f5 = some ⟨oc5, od5, .func (PySem.W.fnOf "is_method" "is_method" (defArgs sMeth) (defBody sMeth) (defScope sMeth) .none kV5 dc5 pm5 an5 cd5 ct5), sl5⟩) (c5 : PySem.W.codeIn K cd5 "is_method" = true) (k5 : PySem.W.keepIn K (.ref f5) = true)
    (a6 : PySem.W.nsIn K mainGlobals "is_stopper" = some (some (.ref f6))) (l6 : K.lookup f6 = some ⟨oc6, od6, .func (PySem.W.fnOf "is_stopper" "is_stopper" (defArgs sStop) (defBody sStop) (defScope sStop) .none kV6 dc6 pm6 an6 cd6 ct6), sl6⟩) (c6 : PySem.W.codeIn K cd6 "is_stopper" = true) (k6 : PySem.W.keepIn K (.ref f6) = true)
    (a7 : PySem.W.nsIn K mainGlobals "_are_words" = some (some (.ref f7))) (l7 : K.lookup f7 = some ⟨oc7, od7, .func (PySem.W.fnOf "_are_words" "_are_words" (defArgs sWords) (defBody sWords) (defScope sWords) .none kV7 dc7 pm7 an7 cd7 ct7), sl7⟩) (c7 : PySem.W.codeIn K cd7 "_are_words" = true) (k7 : PySem.W.keepIn K (.ref f7) = true)
    (a8 : PySem.W.nsIn K mainGlobals "_law_source" = some (some (.ref f8))) (l8 : K.lookup f8 = some ⟨oc8, od8, .func (PySem.W.fnOf "_law_source" "_law_source" (defArgs sSource) (defBody sSource) (defScope sSource) .none kV8 dc8 pm8 an8 cd8 ct8), sl8⟩) (c8 : PySem.W.codeIn K cd8 "_law_source" = true) (k8 : PySem.W.keepIn K (.ref f8) = true)
    (a9 : PySem.W.nsIn K mainGlobals "_law_next" = some (some (.ref f9))) (l9 : K.lookup f9 = some ⟨oc9, od9, .func (PySem.W.fnOf "_law_next" "_law_next" (defArgs sNext) (defBody sNext) (defScope sNext) .none kV9 dc9 pm9 an9 cd9 ct9), sl9⟩) (c9 : PySem.W.codeIn K cd9 "_law_next" = true) (k9 : PySem.W.keepIn K (.ref f9) = true)
    (a10 : PySem.W.nsIn K mainGlobals "_law_pick" = some (some (.ref f10))) (l10 : K.lookup f10 = some ⟨oc10, od10, .func (PySem.W.fnOf "_law_pick" "_law_pick" (defArgs sPick) (defBody sPick) (defScope sPick) .none kV10 dc10 pm10 an10 cd10 ct10), sl10⟩) (c10 : PySem.W.codeIn K cd10 "_law_pick" = true) (k10 : PySem.W.keepIn K (.ref f10) = true)
    (a11 : PySem.W.nsIn K mainGlobals "_law_mixed" = some (some (.ref f11))) (l11 : K.lookup f11 = some ⟨oc11, od11, .func (PySem.W.fnOf "_law_mixed" "_law_mixed" (defArgs sMixed) (defBody sMixed) (defScope sMixed) .none kV11 dc11 pm11 an11 cd11 ct11), sl11⟩) (c11 : PySem.W.codeIn K cd11 "_law_mixed" = true) (k11 : PySem.W.keepIn K (.ref f11) = true)
    (a12 : PySem.W.nsIn K mainGlobals "_law_word_row" = some (some (.ref f12))) (l12 : K.lookup f12 = some ⟨oc12, od12, .func (PySem.W.fnOf "_law_word_row" "_law_word_row" (defArgs sWordRow) (defBody sWordRow) (defScope sWordRow) .none kV12 dc12 pm12 an12 cd12 ct12), sl12⟩) (c12 : PySem.W.codeIn K cd12 "_law_word_row" = true) (k12 : PySem.W.keepIn K (.ref f12) = true)
    (a13 : PySem.W.nsIn K mainGlobals "_law_method" = some (some (.ref f13))) (l13 : K.lookup f13 = some ⟨oc13, od13, .func (PySem.W.fnOf "_law_method" "_law_method" (defArgs sMethod) (defBody sMethod) (defScope sMethod) .none kV13 dc13 pm13 an13 cd13 ct13), sl13⟩) (c13 : PySem.W.codeIn K cd13 "_law_method" = true) (k13 : PySem.W.keepIn K (.ref f13) = true)
    (a14 : PySem.W.nsIn K mainGlobals "_law_is_name_here" = some (some (.ref f14))) (l14 : K.lookup f14 = some ⟨oc14, od14, .func (PySem.W.fnOf "_law_is_name_here" "_law_is_name_here" (defArgs sNameH) (defBody sNameH) (defScope sNameH) .none kV14 dc14 pm14 an14 cd14 ct14), sl14⟩) (c14 : PySem.W.codeIn K cd14 "_law_is_name_here" = true) (k14 : PySem.W.keepIn K (.ref f14) = true)
    (a15 : PySem.W.nsIn K mainGlobals "_law_is_row_here" = some (some (.ref f15))) (l15 : K.lookup f15 = some ⟨oc15, od15, .func (PySem.W.fnOf "_law_is_row_here" "_law_is_row_here" (defArgs sRowH) (defBody sRowH) (defScope sRowH) .none kV15 dc15 pm15 an15 cd15 ct15), sl15⟩) (c15 : PySem.W.codeIn K cd15 "_law_is_row_here" = true) (k15 : PySem.W.keepIn K (.ref f15) = true)
    (a16 : PySem.W.nsIn K mainGlobals "_law_is_words_here" = some (some (.ref f16))) (l16 : K.lookup f16 = some ⟨oc16, od16, .func (PySem.W.fnOf "_law_is_words_here" "_law_is_words_here" (defArgs sWordsH) (defBody sWordsH) (defScope sWordsH) .none kV16 dc16 pm16 an16 cd16 ct16), sl16⟩) (c16 : PySem.W.codeIn K cd16 "_law_is_words_here" = true) (k16 : PySem.W.keepIn K (.ref f16) = true)
    (a17 : PySem.W.nsIn K mainGlobals "_law_is_method_here" = some (some (.ref f17))) (l17 : K.lookup f17 = some ⟨oc17, od17, .func (PySem.W.fnOf "_law_is_method_here" "_law_is_method_here" (defArgs sMethH) (defBody sMethH) (defScope sMethH) .none kV17 dc17 pm17 an17 cd17 ct17), sl17⟩) (c17 : PySem.W.codeIn K cd17 "_law_is_method_here" = true) (k17 : PySem.W.keepIn K (.ref f17) = true)
    (a18 : PySem.W.nsIn K mainGlobals "_law_stopper_told" = some (some (.ref f18))) (l18 : K.lookup f18 = some ⟨oc18, od18, .func (PySem.W.fnOf "_law_stopper_told" "_law_stopper_told" (defArgs sTold) (defBody sTold) (defScope sTold) .none kV18 dc18 pm18 an18 cd18 ct18), sl18⟩) (c18 : PySem.W.codeIn K cd18 "_law_stopper_told" = true) (k18 : PySem.W.keepIn K (.ref f18) = true)
    (a19 : PySem.W.nsIn K mainGlobals "_law_bent_method" = some (some (.ref f19))) (l19 : K.lookup f19 = some ⟨oc19, od19, .func (PySem.W.fnOf "_law_bent_method" "_law_bent_method" (defArgs sBent) (defBody sBent) (defScope sBent) .none kV19 dc19 pm19 an19 cd19 ct19), sl19⟩) (c19 : PySem.W.codeIn K cd19 "_law_bent_method" = true) (k19 : PySem.W.keepIn K (.ref f19) = true)
    (a20 : PySem.W.nsIn K mainGlobals "law" = some (some (.ref f20))) (l20 : K.lookup f20 = some ⟨oc20, od20, .func (PySem.W.fnOf "law" "law" (defArgs sLaw) (defBody sLaw) (defScope sLaw) .none kV20 dc20 pm20 an20 cd20 ct20), sl20⟩) (c20 : PySem.W.codeIn K cd20 "law" = true) (k20 : PySem.W.keepIn K (.ref f20) = true)
    (z_len : PySem.W.nsIn K mainGlobals "len" = some none)
    (z_isinstance : PySem.W.nsIn K mainGlobals "isinstance" = some none)
    (z_str : PySem.W.nsIn K mainGlobals "str" = some none)
    (z_tuple : PySem.W.nsIn K mainGlobals "tuple" = some none)
    (z_all : PySem.W.nsIn K mainGlobals "all" = some none)
    (z_set : PySem.W.nsIn K mainGlobals "set" = some none)
    (z_list : PySem.W.nsIn K mainGlobals "list" = some none)
    (z_range : PySem.W.nsIn K mainGlobals "range" = some none)
    (z_repr : PySem.W.nsIn K mainGlobals "repr" = some none)
    {t8 : Tok} (m__LONGEST_NAME : PySem.W.nsIn K mainGlobals "_LONGEST_NAME" = some (some (.int 8 t8)))
    {t4 : Tok} (m__LONGEST_ROW : PySem.W.nsIn K mainGlobals "_LONGEST_ROW" = some (some (.int 4 t4)))
    {t5 : Tok} (m__PARTS : PySem.W.nsIn K mainGlobals "_PARTS" = some (some (.int 4 t5)))
    {t6 : Tok} (m__MOST_WORDS : PySem.W.nsIn K mainGlobals "_MOST_WORDS" = some (some (.int 4 t6))) :
    ∃ fd : FuncData, (∀ (s : Shared) (v : Value), BindsTo s fd ⟨[v], []⟩ [("_law_script", v)]) ∧ ∀ base : Heap, K.In base → base.Ns mainGlobals mg → RunsG l.prog w K mg base CX0 8 fa fd ["_law_script"] (spLaw K) := by
  have e := hfa.symm.trans (PySem.W.mg_of X G a20)
  cases e
  have FNm := fun_mk (st := sName) l1 c1 k1
  have bNm := FNm.binds (ps := ["thing"]) fun _ _ _ _ _ _ us hl => match us, hl with | [_], _ => rfl
  have gNm := PySem.W.mg_of X G a1
  have FNs := fun_mk (st := sNames) l2 c2 k2
  have bNs := FNs.binds (ps := ["thing"]) fun _ _ _ _ _ _ us hl => match us, hl with | [_], _ => rfl
  have gNs := PySem.W.mg_of X G a2
  have FDf := fun_mk (st := sDiff) l3 c3 k3
  have bDf := FDf.binds (ps := ["thing"]) fun _ _ _ _ _ _ us hl => match us, hl with | [_], _ => rfl
  have gDf := PySem.W.mg_of X G a3
  have FRo := fun_mk (st := sRow) l4 c4 k4
  have bRo := FRo.binds (ps := ["thing"]) fun _ _ _ _ _ _ us hl => match us, hl with | [_], _ => rfl
  have gRo := PySem.W.mg_of X G a4
  have FMe := fun_mk (st := sMeth) l5 c5 k5
  have bMe := FMe.binds (ps := ["thing"]) fun _ _ _ _ _ _ us hl => match us, hl with | [_], _ => rfl
  have gMe := PySem.W.mg_of X G a5
  have FSt := fun_mk (st := sStop) l6 c6 k6
  have bSt := FSt.binds (ps := ["method"]) fun _ _ _ _ _ _ us hl => match us, hl with | [_], _ => rfl
  have gSt := PySem.W.mg_of X G a6
  have FWo := fun_mk (st := sWords) l7 c7 k7
  have bWo := FWo.binds (ps := ["thing"]) fun _ _ _ _ _ _ us hl => match us, hl with | [_], _ => rfl
  have gWo := PySem.W.mg_of X G a7
  have FS := fun_mk (st := sSource) l8 c8 k8
  have bS := FS.binds (ps := ["_law_script", "_law_k"]) fun _ _ _ _ _ _ us hl => match us, hl with | [_, _], _ => rfl
  have gS := PySem.W.mg_of X G a8
  have FN := fun_mk (st := sNext) l9 c9 k9
  have bN := FN.binds (ps := ["_law_source_here", "_law_many"]) fun _ _ _ _ _ _ us hl => match us, hl with | [_, _], _ => rfl
  have gN := PySem.W.mg_of X G a9
  have FP := fun_mk (st := sPick) l10 c10 k10
  have bP := FP.binds (ps := ["_law_source_here", "_law_items"]) fun _ _ _ _ _ _ us hl => match us, hl with | [_, _], _ => rfl
  have gP := PySem.W.mg_of X G a10
  have FM := fun_mk (st := sMixed) l11 c11 k11
  have bM := FM.binds (ps := ["_law_source_here", "_law_items"]) fun _ _ _ _ _ _ us hl => match us, hl with | [_, _], _ => rfl
  have gM := PySem.W.mg_of X G a11
  have FWr := fun_mk (st := sWordRow) l12 c12 k12
  have bWr := FWr.binds (ps := ["_law_source_here", "_law_most"]) fun _ _ _ _ _ _ us hl => match us, hl with | [_, _], _ => rfl
  have gWr := PySem.W.mg_of X G a12
  have FLm := fun_mk (st := sMethod) l13 c13 k13
  have bLm := FLm.binds (ps := ["_law_source_here"]) fun _ _ _ _ _ _ us hl => match us, hl with | [_], _ => rfl
  have gLm := PySem.W.mg_of X G a13
  have FNH := fun_mk (st := sNameH) l14 c14 k14
  have bNH := FNH.binds (ps := ["_law_thing"]) fun _ _ _ _ _ _ us hl => match us, hl with | [_], _ => rfl
  have gNH := PySem.W.mg_of X G a14
  have FRH := fun_mk (st := sRowH) l15 c15 k15
  have bRH := FRH.binds (ps := ["_law_thing"]) fun _ _ _ _ _ _ us hl => match us, hl with | [_], _ => rfl
  have gRH := PySem.W.mg_of X G a15
  have FWH := fun_mk (st := sWordsH) l16 c16 k16
  have bWH := FWH.binds (ps := ["_law_thing"]) fun _ _ _ _ _ _ us hl => match us, hl with | [_], _ => rfl
  have gWH := PySem.W.mg_of X G a16
  have FMH := fun_mk (st := sMethH) l17 c17 k17
  have bMH := FMH.binds (ps := ["_law_thing"]) fun _ _ _ _ _ _ us hl => match us, hl with | [_], _ => rfl
  have gMH := PySem.W.mg_of X G a17
  have FTs := fun_mk (st := sTold) l18 c18 k18
  have bTs := FTs.binds (ps := ["_law_thing"]) fun _ _ _ _ _ _ us hl => match us, hl with | [_], _ => rfl
  have gTs := PySem.W.mg_of X G a18
  have FBe := fun_mk (st := sBent) l19 c19 k19
  have bBe := FBe.binds (ps := ["_law_source_here", "_law_thing"]) fun _ _ _ _ _ _ us hl => match us, hl with | [_, _], _ => rfl
  have gBe := PySem.W.mg_of X G a19
  have FL := fun_mk (st := sLaw) l20 c20 k20
  have n_len := PySem.W.mg_none_of X G z_len
  have n_isinstance := PySem.W.mg_none_of X G z_isinstance
  have n_str := PySem.W.mg_none_of X G z_str
  have n_tuple := PySem.W.mg_none_of X G z_tuple
  have n_all := PySem.W.mg_none_of X G z_all
  have n_set := PySem.W.mg_none_of X G z_set
  have n_list := PySem.W.mg_none_of X G z_list
  have n_range := PySem.W.mg_none_of X G z_range
  have n_repr := PySem.W.mg_none_of X G z_repr
  have g__LONGEST_NAME := PySem.W.mg_of X G m__LONGEST_NAME
  have g__LONGEST_ROW := PySem.W.mg_of X G m__LONGEST_ROW
  have g__PARTS := PySem.W.mg_of X G m__PARTS
  have g__MOST_WORDS := PySem.W.mg_of X G m__MOST_WORDS
  refine ⟨PySem.W.fnOf "law" "law" (defArgs sLaw) (defBody sLaw) (defScope sLaw) .none kV20 dc20 pm20 an20 cd20 ct20, fun s v => .of_eq rfl, fun base _ _ => ?_⟩
  have TN : NamesTxt mg := ⟨n_len, n_isinstance, n_str, n_tuple, n_all, n_set⟩
  have T : Txt mg := ⟨TN, n_len, n_isinstance, n_tuple, n_list, n_range, n_repr⟩
  have oC : L2.OexC K C := ⟨⟨nm, q, N, bs, _, sn, sub, ab, col, dd, m0, m1, m2, m3, m5, xL, by rfl⟩, saC, eC, tC, kC⟩
  have xC : L2.XfC K C := ⟨gaC, ggC, eC, hC⟩
  have cC : L2.ExcC K C := ⟨gaC, ggC, eC, hC, clC, ogC, otC, moC⟩
  have hm := PySem.W.exm_ref eW hW tW sCW
  have FI := fun_mk (st := sInit) lI cI kI
  have bI := FI.binds (ps := ["self", "name"]) fun _ _ _ _ _ _ us hl => match us, hl with | [_, _], _ => rfl
  have gC := PySem.W.mg_of X G aC
  have gW := PySem.W.mg_of X G aW
  have GN : FnOk l.prog w K mg base CX0 1 _ _ _ spNext := ok_next FN
  have GP : FnOk l.prog w K mg base CX0 2 _ _ _ spPick := ok_pick FP FN bN gN n_len
  have GNs : FnOk l.prog w K mg base CX0 2 _ _ _ (spOf K namesV) := ok_names FNs TN FNm bNm gNm g__LONGEST_NAME
  have GDf : FnOk l.prog w K mg base CX0 3 _ _ _ (spOf K diffOf) := ok_diff FDf TN FNm bNm gNm FNs bNs gNs g__LONGEST_NAME
  have GRo : FnOk l.prog w K mg base CX0 4 _ _ _ (spOf K rowV) := ok_row FRo TN FDf bDf gDf GDf g__LONGEST_ROW
  have GWo : FnOk l.prog w K mg base CX0 3 _ _ _ (spD wordsD) := ok_words FWo T FNs bNs gNs GNs g__MOST_WORDS
  have GMe : FnOk l.prog w K mg base CX0 5 _ _ _ spM := ok_meth FMe T FRo bRo gRo GRo FWo bWo gWo GWo g__PARTS
  have GSt : FnOk l.prog w K mg base (L2.CX l.prog w) 6 _ _ _ (spStop C) := ok_stop FSt T FMe bMe gMe GMe gC oC nC iC tI FI bI
  have GNH : FnOk l.prog w K mg base CX0 1 _ _ _ (spName K) := ok_nameH FNH TN
  have GRH : FnOk l.prog w K mg base CX0 2 _ _ _ (spOf K rowV) := ok_rowH FRH TN FNH bNH gNH
  have GWH : FnOk l.prog w K mg base CX0 2 _ _ _ (spD wordsD) := ok_wordsH FWH T FNH bNH gNH GNH
  have GMH : FnOk l.prog w K mg base CX0 3 _ _ _ spM := ok_methH FMH T FRH bRH gRH GRH FWH bWH gWH GWH
  have GTs : FnOk l.prog w K mg base CX0 7 _ _ _ spTold := ok_told FTs T FSt bSt gSt GSt gC gW hm cC xC nC kkC
  have GM : FnOk l.prog w K mg base CX0 2 _ _ _ spMixed := ok_mixed FM T FN bN gN GN
  have GWr : FnOk l.prog w K mg base CX0 3 _ _ _ spWordRow := ok_wordrow FWr T FN bN gN GN FP bP gP GP
  have GLm : FnOk l.prog w K mg base CX0 4 _ _ _ spMethod := ok_method FLm T FN bN gN GN FP bP gP GP FM bM gM GM FWr bWr gWr GWr
  have GBe : FnOk l.prog w K mg base CX0 3 _ _ _ spBent := ok_bent FBe T FN bN gN GN FP bP gP GP
  exact ok_law FL T FS bS gS (ok_source FS n_len) FLm bLm gLm GLm FBe bBe gBe GBe FMe bMe gMe GMe FMH bMH gMH GMH FTs bTs gTs GTs
end K03
open PySem PySem.W PyProof.Rows
set_option maxRecDepth 100000 in
set_option maxHeartbeats 0 in
theorem PySem.Challenge.cw_nextbehind_k03_methods_recognized_holds : PySem.Challenge.rw_nextbehind_k03_methods_recognized.Holds := by
  w_on; o_law; k_head; (case hw => w_witness2)
  k_fill
  refine Nb.walk_ofG (l := PySem.Challenge.rw_nextbehind_k03_methods_recognized) (n := 63) (k := 8) (x := "_law_script") (CX := fun _ => L2.CX0) (sp := fun w => Nb.spLaw _) rfl (by decide) rfl ⟨rfl, by decide, by decide⟩ (fun w h Y => PySem.W.kIn_of Y) ?F (fun _ _ a ns hl _ hS => ⟨a, ns, rfl, hS, hl, fun _ => rfl⟩) (fun _ _ _ _ _ h => h)
  case F =>
    intro w mg fa h KX G hmg
    refine' K03.all_mk KX G hmg ?aC ?aW ?xL ?saC ?gaC ?ggC ?nC ?iC ?tI ?lI ?cI ?kI ?kC ?eC ?tC ?hC ?clC ?ogC ?otC ?moC ?kkC ?eW ?hW ?tW ?sCW ?a1 ?l1 ?c1 ?k1 ?a2 ?l2 ?c2 ?k2 ?a3 ?l3 ?c3 ?k3 ?a4 ?l4 ?c4 ?k4 ?a5 ?l5 ?c5 ?k5 ?a6 ?l6 ?c6 ?k6 ?a7 ?l7 ?c7 ?k7 ?a8 ?l8 ?c8 ?k8 ?a9 ?l9 ?c9 ?k9 ?a10 ?l10 ?c10 ?k10 ?a11 ?l11 ?c11 ?k11 ?a12 ?l12 ?c12 ?k12 ?a13 ?l13 ?c13 ?k13 ?a14 ?l14 ?c14 ?k14 ?a15 ?l15 ?c15 ?k15 ?a16 ?l16 ?c16 ?k16 ?a17 ?l17 ?c17 ?k17 ?a18 ?l18 ?c18 ?k18 ?a19 ?l19 ?c19 ?k19 ?a20 ?l20 ?c20 ?k20 ?z_len ?z_isinstance ?z_str ?z_tuple ?z_all ?z_set ?z_list ?z_range ?z_repr ?m__LONGEST_NAME ?m__LONGEST_ROW ?m__PARTS ?m__MOST_WORDS
    (case aC => first | k_is | rfl)
    (case aW => first | k_is | rfl)
    (case xL => first | k_is | rfl)
    (case saC => first | k_is | rfl)
    (case gaC => first | k_is | rfl)
    (case ggC => first | k_is | rfl)
    (case nC => first | k_is | rfl)
    (case iC => first | k_is | rfl)
    (case tI => first | k_is | rfl)
    (case lI => first | k_is | rfl)
    (case cI => first | k_is | rfl)
    (case kI => first | k_is | rfl)
    (case kC => first | k_is | rfl)
    (case eC => first | k_is | rfl)
    (case tC => first | k_is | rfl)
    (case hC => first | k_is | rfl)
    (case clC => first | k_is | rfl)
    (case ogC => first | k_is | rfl)
    (case otC => first | k_is | rfl)
    (case moC => first | k_is | rfl)
    (case kkC => first | k_is | rfl)
    (case eW => first | k_is | rfl)
    (case hW => first | k_is | rfl)
    (case tW => first | k_is | rfl)
    (case sCW => first | k_is | rfl)
    (case a1 => k_is)
    (case l1 => k_is)
    (case c1 => k_is)
    (case k1 => k_is)
    (case a2 => k_is)
    (case l2 => k_is)
    (case c2 => k_is)
    (case k2 => k_is)
    (case a3 => k_is)
    (case l3 => k_is)
    (case c3 => k_is)
    (case k3 => k_is)
    (case a4 => k_is)
    (case l4 => k_is)
    (case c4 => k_is)
    (case k4 => k_is)
    (case a5 => k_is)
    (case l5 => k_is)
    (case c5 => k_is)
    (case k5 => k_is)
    (case a6 => k_is)
    (case l6 => k_is)
    (case c6 => k_is)
    (case k6 => k_is)
    (case a7 => k_is)
    (case l7 => k_is)
    (case c7 => k_is)
    (case k7 => k_is)
    (case a8 => k_is)
    (case l8 => k_is)
    (case c8 => k_is)
    (case k8 => k_is)
    (case a9 => k_is)
    (case l9 => k_is)
    (case c9 => k_is)
    (case k9 => k_is)
    (case a10 => k_is)
    (case l10 => k_is)
    (case c10 => k_is)
    (case k10 => k_is)
    (case a11 => k_is)
    (case l11 => k_is)
    (case c11 => k_is)
    (case k11 => k_is)
    (case a12 => k_is)
    (case l12 => k_is)
    (case c12 => k_is)
    (case k12 => k_is)
    (case a13 => k_is)
    (case l13 => k_is)
    (case c13 => k_is)
    (case k13 => k_is)
    (case a14 => k_is)
    (case l14 => k_is)
    (case c14 => k_is)
    (case k14 => k_is)
    (case a15 => k_is)
    (case l15 => k_is)
    (case c15 => k_is)
    (case k15 => k_is)
    (case a16 => k_is)
    (case l16 => k_is)
    (case c16 => k_is)
    (case k16 => k_is)
    (case a17 => k_is)
    (case l17 => k_is)
    (case c17 => k_is)
    (case k17 => k_is)
    (case a18 => k_is)
    (case l18 => k_is)
    (case c18 => k_is)
    (case k18 => k_is)
    (case a19 => k_is)
    (case l19 => k_is)
    (case c19 => k_is)
    (case k19 => k_is)
    (case a20 => k_is)
    (case l20 => k_is)
    (case c20 => k_is)
    (case k20 => k_is)
    (case z_len => k_is)
    (case z_isinstance => k_is)
    (case z_str => k_is)
    (case z_tuple => k_is)
    (case z_all => k_is)
    (case z_set => k_is)
    (case z_list => k_is)
    (case z_range => k_is)
    (case z_repr => k_is)
    (case m__LONGEST_NAME => k_is)
    (case m__LONGEST_ROW => k_is)
    (case m__PARTS => k_is)
    (case m__MOST_WORDS => k_is)
