import PyProof.Rows.All
import Wide.All
import OpenK.AllK
import Wide.FinOn
import HandS.ForMost
import HandS.Strs
import HandS.IsInst
import HandS.Wide
import HandS.ExcOwn
import HandS.Exc
import HandS.ExcField
import HandS.ExcIs
import HandS.ExcInit
import KE.KExcIs
import KE.KExcInit
import HandS.Ends
import HandS.TupAny
import PyProof.Rows.RegFStrParts
import HandS.Walk
import KE.GoesEnum
import KE.GoesMore
import HandS.DictComp
import HandS.Deep
import HandS.More
import HandS.Star
import HandS.SetKeys
import HandS.OwnEq
import PyProof.AttrMiss
import PyProof.InstEq
import HandS.SlotsOwn
import HandS.ForExc
import PyProof.P3Eq
import PySem.Challenge.RW_nextbehind_k23_chains_added
set_option Elab.async false
set_option maxRecDepth 100000
/-! How many different texts a tuple holds: the value of len(set(t)). -/
namespace Nb
open PySem PySem.Spec PyProof.Rows L2
/-- the different texts of a list, each where it is met first -/
def dis : List Str → List Str
  | [] => []
  | x :: r => x :: (dis r).filter (fun y => !(y == x))
/-- seen so far: one text more -/
def grow (l : List Str) (x : Str) : List Str := if l.any (· == x) then l else l ++ [x]
def seen (xs : List Str) : List Str := xs.foldl grow []
theorem seen_snoc (xs : List Str) (x : Str) : seen (xs ++ [x]) = grow (seen xs) x := by
  unfold seen
  rw [List.foldl_append]
  rfl
theorem grow_any (l : List Str) (x k : Str) : (grow l x).any (· == k) = (l.any (· == k) || decide (k = x)) := by
  unfold grow
  by_cases h : l.any (· == x) = true
  · rw [if_pos h]
    by_cases e : k = x
    · subst e
      rw [h]
      rfl
    · simp [e]
  · rw [if_neg h, List.any_append]
    by_cases e : k = x
    · subst e
      simp
    · have e2 : (x == k) = false := beq_eq_false_iff_ne.mpr fun z => e z.symm
      simp [e, e2]
theorem grow_len (l : List Str) (x : Str) : (grow l x).length = if l.any (· == x) = true then l.length else l.length + 1 := by
  unfold grow
  split <;> simp
theorem grow_le (l : List Str) (x : Str) : (grow l x).length ≤ l.length + 1 := by
  rw [grow_len]
  split <;> omega
theorem seen_le : ∀ xs : List Str, (seen xs).length ≤ xs.length := by
  have key : ∀ (xs l : List Str), (xs.foldl grow l).length ≤ l.length + xs.length := by
    intro xs
    induction xs with
    | nil => intro l; exact Nat.le_refl _
    | cons x r ih =>
      intro l
      have h1 := ih (grow l x)
      have h2 := grow_le l x
      show (r.foldl grow (grow l x)).length ≤ l.length + (r.length + 1)
      omega
  intro xs
  have h := key xs []
  simpa [seen] using h

section
variable {P : Program} {w : World} {A : Around} {E : Value → Shared → Prop} {s : Shared}
abbrev SetS (P : Program) (w : World) (h : Heap) (S : Addr) (l : List Str) : Prop := h.SetOf (PySem.strKind P w) S (fun k => l.any (· == k)) l.length
theorem SetS.to {h h' : Heap} {S : Addr} {l : List Str} (x : SetS P w h S l) (k : ∀ o, h.get? S = some o → h'.get? S = some o) : SetS P w h' S l :=
  let ⟨o, es, ep, t, ho, r⟩ := x
  ⟨o, es, ep, t, k o ho, r⟩
/-- the set takes what is walked, text by text -/
theorem takes_texts {I : Addr} {fp wr : List Addr} {G : Array GenState → Array GenState → Prop} {n : Nat} {Pv : Nat → Value → Prop} {St : Nat → Shared → Prop} {R : Result → Shared → Prop}
    (W : WalksS P w A.in1 I fp wr G n Pv St) (S : Addr) (apart : S ∉ fp) (xs : List Str) (size : n = xs.length) (few : xs.length + 1 < scanBound) (val : ∀ i v, Pv i v → ∃ x t, xs[i]? = some x ∧ v = .str x t) :
    ∀ (m i : Nat) (s : Shared), m + i = n → St i s → SetS P w s.heap S (seen (xs.take i)) →
      (∀ s', Moved (S :: wr) G s s' → SetS P w s'.heap S (seen xs) → R (.ok (.ret .none)) s') → codeAny (model P w) A (.builtin "set.update.loop" ⟨[.ref S, .ref I], []⟩) R s := by
  have out : S ∉ wr := fun z => apart (W.sub _ z)
  have wide : ∀ b ∈ wr, b ∈ S :: wr := fun b z => List.mem_cons_of_mem _ z
  intro m
  induction m with
  | zero =>
    intro i s em here held fin
    refine codeAny_builtin F.entry_set_update_loop (by
      rw [Around.under_plainId F.plain_set_update_loop _]
      refine wpAny_bind (m := pyNext (.ref I)) (W.done s _ _ (by rw [← em, Nat.zero_add]; exact here) fun s' mv => ?_)
      refine wpAny_pure (fin s' (mv.mono wide) ?_)
      have all : xs.take i = xs := List.take_of_length_le (by omega)
      rw [all] at held
      exact held.to fun o e => mv.heap S o out e)
  | succ m ih =>
    intro i s em here held fin
    refine codeAny_builtin F.entry_set_update_loop (by
      rw [Around.under_plainId F.plain_set_update_loop _]
      refine wpAny_bind (m := pyNext (.ref I)) (W.item i s _ _ (by omega) here fun v s' hv here' mv => ?_)
      obtain ⟨x, t, ex, rfl⟩ := val i v hv
      have held' : SetS P w s'.heap S (seen (xs.take i)) := held.to fun o e => mv.heap S o out e
      refine wpAny_bind (m := holding [Value.str x t] (setAdd S (.str x t))) (wpAny_holding ?_)
      unfold setAdd
      refine wpAny_holding (wpAny_bind ((PySem.strKind P w).pyHash (k := x) (strKind_is _ _ _ _) ?_))
      have room : (seen (xs.take i)).length + 1 < scanBound := by
        have h1 := seen_le (xs.take i)
        have h2 : (xs.take i).length ≤ xs.length := by rw [List.length_take]; omega
        omega
      refine wpAny_setAddHashed_of (knd := PySem.strKind P w) (s := { s' with toks := s'.toks + 1 }) (strKind_is _ _ _ _) rfl held' room fun h' only more => ?_
      have step : seen (xs.take (i + 1)) = grow (seen (xs.take i)) x := by
        rw [List.take_add_one, ex]
        exact seen_snoc _ _
      have held2 : SetS P w h' S (seen (xs.take (i + 1))) := by
        rw [step]
        exact SetOf_congr more (fun k => (grow_any _ _ _).symm) (grow_len _ _).symm
      have still : ∀ b, b ≠ S → ∀ o, s'.heap.get? b = some o → h'.get? b = some o := fun b nb o e => by
        rw [only.2 b nb]
        exact e
      exact wpAny_pure ⟨plainId_quiet F.plain_set_update_loop _, ih (i + 1) _ (by omega) (W.frame _ s' _ _ here' (Nat.le_succ _) fun b hb o e => still b (fun z => apart (z ▸ hb)) o e) held2 fun s2 mv2 held3 =>
        fin s2 (Moved.trans W.gtrans ((mv.mono wide).then_heap (Nat.le_succ _) fun b o hb e => still b (fun z => hb (z ▸ List.mem_cons_self)) o e) mv2) held3⟩)
/-- an empty set as it is laid -/
abbrev bareSet (led : Bool) : Obj := { cls := .type "set", dict := none, data := .set #[] 0 (.fresh 0 0 led) }
set_option maxHeartbeats 3200000 in
/-- set(t), t a tuple of texts -/
theorem set_of_texts {l : Addr} {items : Array Value} {xs : List Str} {Q : Value → Shared → Prop} (calm : A.handled = none) (tup : s.heap.IsTuple l items) (txt : StrsAre items.toList xs) (few : xs.length + 1 < scanBound)
    (h : ∀ (h' : Heap) (tk : Nat), SetS P w h' s.heap.objs.size (seen xs) → (∀ b o, s.heap.get? b = some o → h'.get? b = some o) → Q (.ref s.heap.objs.size) { s with heap := h', toks := tk }) :
    wpAny (model P w) A (call (.type "set") [.ref l]) Q E s := by
  have size : items.size = xs.length := by
    have q := StrsAre.len_eq txt
    rw [Array.length_toList] at q
    exact q
  obtain ⟨c, tl, hmro⟩ := F.called_set.mro
  have g1 := F.called_set.made
  have g2 := F.called_set.sub
  have g3 := F.called_set.notType
  have g4 := F.called_set.canCreate
  have g5 := F.typeCall_set_1 (.ref l)
  refine wpAny_call (codeAny_of_tree (show wpAny _ _ (callAny (.type "set") _) _ _ _ from wpAny_pure ⟨Code.quiet_builtin _ (by decide +kernel), codeAny_builtin F.entry_type_call ?_⟩))
  rw [Around.under_plain (weight_type_call_type "set" [.ref l] []) rfl]
  repeat (any_goals (first | assumption | wp_step))
  refine codeAny_mono (code_set_new_1 (.ref l) (E := E) (Q₁ := fun obj s₁ => ∃ led : Bool, obj = .ref s.heap.objs.size ∧ s₁ = { s with heap := s.heap.push (bareSet led) }) fun led => ⟨led, rfl, rfl⟩) fun r s₁ hr => ?_
  rcases r with e | fl
  · exact hr
  cases fl with
  | ret obj =>
    obtain ⟨led, rfl, rfl⟩ := hr
    have at0 : (s.heap.push (bareSet led)).get? s.heap.objs.size = some (bareSet led) := Heap.get?_push_size _ rfl
    have ty0 : Shared.TypeIs { s with heap := s.heap.push (bareSet led) } (.ref s.heap.objs.size) "set" := ⟨_, at0, rfl⟩
    have g6 := F.called_set.init.lookup
    have g7 := F.called_set.init.bind (.ref s.heap.objs.size)
    repeat (any_goals (first | assumption | wp_step))
    refine codeAny_mono (codeAny_call_builtin (R := wants (fun r s₂ => r = .none ∧ ∃ h' tk, s₂ = { s with heap := h', toks := tk } ∧ SetS P w h' s.heap.objs.size (seen xs) ∧ (∀ b o, s.heap.get? b = some o → h'.get? b = some o)) E)
      F.called_set.init.plain F.entry_set_init (check_set_init_1 ty0 ?_)) fun r₂ s₂ hr₂ => ?_
    · obtain ⟨⟨ocls, odict, odata, oslots⟩, ho, hc, nl, hd⟩ := tup
      simp only at hc hd
      subst hc hd
      have ho1 : (s.heap.push (bareSet led)).get? l = some { cls := .type "tuple", dict := odict, data := .seq items nl, slots := oslots } := Heap.get?_push_of_some _ ho
      have g8 := F.sub_tuple_set
      have g9 := F.sub_tuple_frozenset
      have g10 : (Value.type "tuple" == Value.type "dict") = false := by decide
      have tup1 : (s.heap.push (bareSet led)).IsTuple l items := ⟨_, ho1, rfl, nl, rfl⟩
      unfold Builtin.«set.__init__» noKeywords Builtin.Frozenset.updateFrom
      generalize hPI : pyIter = PI
      wp_walk
      subst hPI
      refine wpAny_pyIter_tuple tup1 (wpAny_bind (wpAny_runValue ?_))
      have lt0 : l < s.heap.objs.size := Heap.lt_size ho
      have sz1 : (s.heap.push (bareSet led)).objs.size = s.heap.objs.size + 1 := Heap.size_push ..
      have calm3 : A.in1.in1.in1.handled = none := by simp [calm]
      have ne1 : l ≠ (s.heap.push (bareSet led)).objs.size := by
        rw [sz1]
        exact Nat.ne_of_lt (Nat.lt_succ_of_lt lt0)
      have apart : s.heap.objs.size ∉ [(s.heap.push (bareSet led)).objs.size, l] := fun z => by
        rcases List.mem_cons.mp z with z | z
        · rw [sz1] at z
          exact absurd z (Nat.ne_of_lt (Nat.lt_succ_self _))
        · exact absurd (List.mem_singleton.mp z) (Nat.ne_of_gt lt0)
      refine takes_texts ((Walks.tuple calm3 _ l ne1 items).toS) s.heap.objs.size apart xs size few (fun i v hv => ?_) items.size 0 _ (by omega) ⟨⟨_, Heap.get?_push_size _ rfl, rfl, rfl⟩, (tup1.push _)⟩ ?start fun s' mv held => ?_
      case start =>
        have at1 : ((s.heap.push (bareSet led)).push { cls := .type "tuple_iterator", data := .fields #[.ref l, .int 0 0] }).get? s.heap.objs.size = some (bareSet led) := Heap.get?_push_of_some _ at0
        exact SetOf_congr ((setObjOf_fresh (knd := PySem.strKind P w) led).setOf at1 (by unfold scanBound; omega)) (fun _ => rfl) rfl
      · have hi : i < xs.length := by
          rw [← size]
          exact (Array.getElem?_eq_some_iff.mp hv).1
        obtain ⟨t, e⟩ := SS.strs_at txt i v (by rw [Array.getElem?_toList]; exact hv)
        refine ⟨xs[i], t, List.getElem?_eq_getElem hi, ?_⟩
        rw [e, List.getD_eq_getElem?_getD, List.getElem?_eq_getElem hi]
        rfl
      · obtain ⟨h', gn, dr, tk, os'⟩ := s'
        have eg : gn = s.gens := mv.gens
        have ed : dr = s.drawn := mv.drawn
        have eo : os' = s.os := mv.os
        subst eg ed eo
        refine wpAny_pure ?_
        show wpAny _ _ (ret Value.none) _ _ _
        refine wpAny_pure ⟨rfl, h', tk, rfl, held, fun b o e => ?_⟩
        have lt1 : b < s.heap.objs.size := Heap.lt_size e
        refine mv.heap b o (fun z => ?_) (Heap.get?_push_of_some _ (Heap.get?_push_of_some _ e))
        rcases List.mem_cons.mp z with z | z
        · exact absurd z (Nat.ne_of_lt lt1)
        · rw [List.mem_singleton.mp z, sz1] at lt1
          exact absurd (Nat.lt_trans lt1 (Nat.lt_succ_self _)) (by
            intro q
            have := Nat.lt_of_lt_of_le lt1 (Nat.le_refl _)
            omega)
    · rcases r₂ with e | fl₂
      · exact hr₂
      cases fl₂ with
      | ret r =>
        obtain ⟨rfl, h', tk, rfl, held, kept⟩ := hr₂
        repeat (any_goals (first | assumption | wp_step))
        exact h _ _ held kept
      | _ => exact hr₂.elim
  | _ => exact hr.elim
end
section
variable {X : Cx}
theorem texts_of : ∀ {xs : List Str} {us : List Value}, Vals (xs.map V.str) us → StrsAre us xs
  | [], _, .nil => .nil
  | x :: xs, _, .cons r t => by
    obtain ⟨k, rfl⟩ := r
    exact .cons x k (texts_of t)
/-- len(set(t)), t a tuple of texts -/
def tManyS (K : PySem.W.Frag) (ta : TE) : TE := fun σ H Q => ta σ H fun x H1 => ∃ (l : Addr) (xs : List Str), x = .ref l ∧ SqT K H1 l (xs.map V.str) ∧ xs.length ≤ 4000 ∧ Q (.int ((seen xs).length : Nat)) H1
theorem pe_manyS {a : Expr} {ta : TE} {p p2 q pos : Pos} (hg : Gl X "len") (hm : X.mg "len" = none) (hg2 : Gl X "set") (hm2 : X.mg "set" = none) (ha : PE X a ta) (hc : X.calm = true := by rfl)
    (na : starEach [a] X.env = (false, eval a X.env) :: starEach [] X.env := by rfl) : PE X (.Call (.Name "len" p) [.Call (.Name "set" p2) [a] [] q] [] pos) (tManyS X.K ta) := by
  refine ⟨fun pins s σ H Q I h => Call_ (ld_blt I hg hm boot_len (callWith_builtin1 (args_cons (Call_ (ld_blt I hg2 hm2 boot_set ?_)) rfl) rfl rfl))⟩
  refine callWith_type1 (args_cons (thn (ha.run pins s σ H _ I h) fun v s1 ⟨x, H1, I1, r1, q1⟩ => args_nil ?_) na) na rfl
  obtain ⟨l, xs, rfl, hq, hl, q1⟩ := q1
  cases r1
  obtain ⟨its, r, pl, hz⟩ := I1.tuple hq
  have few := seen_le xs
  refine set_of_texts (I1.ok.hd hc) pl (by simpa using texts_of r) (by unfold scanBound; omega) fun h' tk held kept => args_nil ?_
  obtain ⟨o, es, ep, t, ho, hex, hd, _, _, _, hf, hn⟩ := held
  exact call_len_set ho hex hd hf (by rw [hn]; omega) ⟨.int (seen xs).length, H1, (I1.kept kept).tok _, ⟨_, by rw [hn]⟩, q1⟩
end
end Nb

set_option Elab.async false
set_option maxRecDepth 100000
set_option maxHeartbeats 4000000
/-! Heaps, and the numbers that the laws draw: what is common to all of them. -/
namespace Nb
open PySem L2
/-! ### heaps -/
theorem same_new {H : Hp} {p : Addr} {o : HO} (h : H p = none) : Same H (upd H p o) := fun b x e => by
  rw [upd_ne (ne_of_none e h)]
  exact e
/-- F says nothing of p: so what is stored at p leaves F as it is -/
theorem same_at {F H : Hp} {p : Addr} {o : HO} (s : Same F H) (h : F p = none) : Same F (upd H p o) := fun b x e => by
  rw [upd_ne (ne_of_none e h)]
  exact s _ _ e
theorem same_in {F H : Hp} {p : Addr} {o : HO} (s : Same F H) (h : H p = none) : Same F (upd H p o) := s.trans (same_new h)
/-- the heap without p -/
def del (H : Hp) (p : Addr) : Hp := fun b => if b = p then none else H b
theorem del_at {H : Hp} {p : Addr} : del H p p = none := if_pos rfl
theorem del_ne {H : Hp} {p b : Addr} (h : b ≠ p) : del H p b = H b := if_neg h
theorem del_same {H : Hp} {p : Addr} : Same (del H p) H := fun b o e => by
  by_cases h : b = p
  · subst h
    rw [del_at] at e
    cases e
  · rw [del_ne h] at e
    exact e
theorem same_del {F H : Hp} {p : Addr} (s : Same F H) (h : F p = none) : Same F (del H p) := fun b o e => by
  rw [del_ne (ne_of_none e h)]
  exact s _ _ e
theorem Same.tup {K : PySem.W.Frag} {H H' : Hp} {a : Addr} {xs : List V} (e : Same H H') (h : SqT K H a xs) : SqT K H' a xs := by
  rcases h with (h | ⟨o, h⟩) | h
  · exact .inl (.inl (e _ _ h))
  · exact .inl (.inr ⟨o, e _ _ h⟩)
  · exact .inr h
/-! ### data under more objects -/
section
variable {K : PySem.W.Frag} {H H' : Hp} (s : Same H H')
include s
mutual
theorem dp_same : ∀ (d : PyData) (v : V), Dp K H v d → Dp K H' v d
  | .none, _, .non => .non
  | .bool b, _, .bl _ => .bl b
  | .int i, _, .int _ => .int i
  | .str x, _, .str _ => .str x
  | .list ds, _, .lst h1 h2 => .lst (s.seq h1) (dp_sames ds _ h2)
  | .tuple ds, _, .tup h1 h2 => .tup (Nb.Same.tup s h1) (dp_sames ds _ h2)
theorem dp_sames : ∀ (ds : List PyData) (vs : List V), DpAll K H vs ds → DpAll K H' vs ds
  | [], _, .nil => .nil
  | d :: ds, _, .cons h1 h2 => .cons (dp_same d _ h1) (dp_sames ds _ h2)
end
end
theorem dp_ints {K : PySem.W.Frag} {H : Hp} : ∀ ns : List Int, DpAll K H (ns.map V.int) (ns.map PyData.int)
  | [] => .nil
  | n :: ns => .cons (.int n) (dp_ints ns)
/-- data without dicts, whose texts are texts, not deeper than n -/
def Fine (n : Nat) (d : PyData) : Prop := d.canLay0 = true ∧ d.depth ≤ n
theorem Fine.mono {n m : Nat} {d : PyData} (h : Fine n d) (l : n ≤ m) : Fine m d := ⟨h.1, Nat.le_trans h.2 l⟩
theorem Fine.shaped {n : Nat} {d : PyData} (h : Fine n d) (l : n ≤ 64) : SeqAt.shaped d = true := by
  unfold SeqAt.shaped
  rw [h.1, Bool.true_and]
  exact decide_eq_true (Nat.le_trans h.2 l)
theorem fine_all : ∀ {n : Nat} {ds : List PyData}, (∀ d ∈ ds, Fine n d) → PyData.canLayAll0 ds = true ∧ PyData.depthAll ds ≤ n
  | n, [], _ => by simp [PyData.canLayAll0, PyData.depthAll]
  | n, d :: ds, h => by
    have h1 := h d (List.mem_cons_self ..)
    have h2 := fine_all (n := n) (ds := ds) fun e he => h e (List.mem_cons_of_mem _ he)
    refine ⟨by simp [PyData.canLayAll0, h1.1, h2.1], ?_⟩
    simp only [PyData.depthAll]
    exact Nat.max_le.mpr ⟨h1.2, h2.2⟩
theorem fine_list {n : Nat} {ds : List PyData} (h : ∀ d ∈ ds, Fine n d) : Fine (n + 1) (.list ds) := by
  have k := fine_all h
  exact ⟨by simpa [PyData.canLay0] using k.1, by simpa [PyData.depth] using k.2⟩
theorem fine_tup {n : Nat} {ds : List PyData} (h : ∀ d ∈ ds, Fine n d) : Fine (n + 1) (.tuple ds) := by
  have k := fine_all h
  exact ⟨by simpa [PyData.canLay0] using k.1, by simpa [PyData.depth] using k.2⟩
theorem fine_int (i : Int) : Fine 0 (.int i) := ⟨by simp [PyData.canLay0], by simp [PyData.depth]⟩
theorem fine_non : Fine 0 .none := ⟨by simp [PyData.canLay0], by simp [PyData.depth]⟩
theorem fine_bl (b : Bool) : Fine 0 (.bool b) := ⟨by simp [PyData.canLay0], by simp [PyData.depth]⟩
theorem fine_str {x : Str} (h : PyData.strOk x = true) : Fine 0 (.str x) := ⟨by simpa [PyData.canLay0] using h, by simp [PyData.depth]⟩
theorem fine_ints (ns : List Int) : Fine 1 (.list (ns.map PyData.int)) := fine_list fun d hd => by
  obtain ⟨i, _, rfl⟩ := List.mem_map.mp hd
  exact fine_int i
theorem eqv_nil (ds : List PyData) : PyData.eqv (.list ds) (.list []) = ds.isEmpty := by
  cases ds <;> simp [PyData.eqv, PyData.eqvAll]
/-! ### the source of numbers: a list of three ints -/
def Src (H : Hp) (p : Addr) (b : Nat) : Prop := ∃ c n r : Int, H p = some (.lst [.int c, .int n, .int r]) ∧ 0 ≤ n ∧ n ≤ b
theorem Src.mono {H : Hp} {p : Addr} {b c : Nat} (h : Src H p b) (l : b ≤ c) : Src H p c := by
  obtain ⟨x, n, r, h1, h2, h3⟩ := h
  exact ⟨x, n, r, h1, h2, by omega⟩
theorem Src.some {H : Hp} {p : Addr} {b : Nat} (h : Src H p b) : ∃ o, H p = some o := let ⟨_, _, _, e, _⟩ := h; ⟨_, e⟩
theorem Src.same {F H : Hp} {p : Addr} {b : Nat} (h : Src F p b) (s : Same F H) : Src H p b :=
  let ⟨c, n, r, e, k⟩ := h; ⟨c, n, r, s _ _ e, k⟩
/-- _law_source's promise -/
def spSource (K : PySem.W.Frag) : Sp := fun vs H Q _ => ∃ (a : Addr) (ns : List Int) (k : Nat), vs = [.ref a, .int k] ∧ SqL K H a (ns.map V.int) ∧ ns.length ≤ 63 ∧ k ≤ 1000 ∧
  ∀ H' p, Same H H' → H p = none → Src H' p (3 * k) → Q (.ref p) H'
/-- _law_next's: a number below the second argument; nothing but the source is changed -/
def spNext : Sp := fun vs H Q _ => ∃ (p : Addr) (m : Int) (b : Nat) (F : Hp), vs = [.ref p, .int m] ∧ 1 ≤ m ∧ m < 1000000 ∧ Src H p b ∧ b ≤ 1000000 ∧ F p = none ∧ Same F H ∧
  ∀ H' k, 0 ≤ k → k < m → Same F H' → Src H' p (b + 1) → Q (.int k) H'
/-- _law_pick's: an item of the list -/
def spPick : Sp := fun vs H Q _ => ∃ (p l : Addr) (xs : List V) (b : Nat) (F : Hp), vs = [.ref p, .ref l] ∧ F l = some (.lst xs) ∧ 1 ≤ xs.length ∧ xs.length ≤ 1000 ∧ Src H p b ∧ b ≤ 1000000 ∧ F p = none ∧ Same F H ∧
  ∀ H' x, x ∈ xs → Same F H' → Src H' p (b + 1) → Q x H'
/-! ### frames: what stands beside the source -/
theorem grow_same {F H : Hp} {l : Addr} {o : HO} (s : Same F H) (h : H l = none) : Same F (upd F l o) := same_new (s.free h)
theorem grow_up {F H : Hp} {l : Addr} {o : HO} (s : Same F H) : Same (upd F l o) (upd H l o) := fun b x e => by
  by_cases hb : b = l
  · subst hb
    rw [upd_same] at e ⊢
    exact e
  · rw [upd_ne hb] at e ⊢
    exact s _ _ e
theorem grow_at {F H : Hp} {p l : Addr} {o : HO} {b : Nat} (hF : F p = none) (S : Src H p b) (h : H l = none) : (upd F l o) p = none := by
  obtain ⟨u, e⟩ := S.some
  rw [upd_ne (ne_of_none e h)]
  exact hF
theorem src_new {H : Hp} {p l : Addr} {o : HO} {b : Nat} (S : Src H p b) (h : H l = none) : Src (upd H l o) p b := S.same (same_new h)
/-- what stood at b, not the source, stands there behind a call that was framed by the heap without the source -/
theorem del_get {H H' : Hp} {p b : Addr} {o : HO} (s : Same (del H p) H') (n : b ≠ p) (e : H b = some o) : H' b = some o := s _ _ (by rw [del_ne n]; exact e)
theorem src_ne {H : Hp} {p b : Addr} {n : Nat} {o : HO} (S : Src H p n) (e : H b = some o) (d : ∀ xs, o ≠ .lst xs) : b ≠ p := by
  obtain ⟨c, m, r, e2, _⟩ := S
  exact ne_of e e2 (d _)
/-- the primes -/
def primes : List Int := [2147483647, 2147483629, 2147483587, 2147483579, 2147483563, 2147483549, 2147483543, 2147483497, 2147483489, 2147483477, 2147483423]
theorem prime_at (k : Int) (h0 : 0 ≤ k) (h : k < 11) : ∃ q : Int, atI (primes.map V.int) k = some (.int q) ∧ 2 ≤ q ∧ q < 2 ^ 31 := by
  have hk : k = 0 ∨ k = 1 ∨ k = 2 ∨ k = 3 ∨ k = 4 ∨ k = 5 ∨ k = 6 ∨ k = 7 ∨ k = 8 ∨ k = 9 ∨ k = 10 := by omega
  rcases hk with rfl | rfl | rfl | rfl | rfl | rfl | rfl | rfl | rfl | rfl | rfl
  all_goals exact ⟨_, rfl, by decide, by decide⟩
theorem fmod_pos (x : Int) {m : Int} (h : 1 ≤ m) : 0 ≤ x.fmod m ∧ x.fmod m < m := by
  rw [Int.fmod_eq_emod_of_nonneg x (by omega)]
  exact ⟨Int.emod_nonneg _ (by omega), Int.emod_lt_of_pos _ (by omega)⟩
end Nb

set_option Elab.async false
set_option maxRecDepth 100000
set_option maxHeartbeats 4000000
/-! A def of the text that keeps its promise, with all that a caller must know of it. -/
namespace Nb
open PySem L2
structure Dn (P : Program) (w : World) (K : PySem.W.Frag) (mg : Str → Option Value) (base : Heap) (CX : CXT) (k : Nat) (x : Str) (ps : List Str) (sp : Sp) : Prop where
  ex : ∃ (f : Addr) (fd : FuncData), PySem.W.keepIn K (.ref f) = true ∧ Binds K fd ps [] ∧ mg x = some (.ref f) ∧ FnOk P w K mg base CX k f fd ps sp
theorem Dn.imp {P : Program} {w : World} {K : PySem.W.Frag} {mg : Str → Option Value} {base : Heap} {CX : CXT} {k : Nat} {x : Str} {ps : List Str} {sp sp' : Sp} (D : Dn P w K mg base CX k x ps sp) (h : ∀ vs H Q E, sp' vs H Q E → sp vs H Q E) : Dn P w K mg base CX k x ps sp' :=
  let ⟨f, fd, a, b, c, F⟩ := D.ex
  ⟨f, fd, a, b, c, F.imp h⟩
section
variable {X : Cx} {CX : CXT} {k : Nat} {ps : List Str} {sp : Sp} {E : XK} {W : L2.St → XK} {x : Str} {p pos : Pos} {e : Expr} {es : List Expr} {t : TA}
theorem pe_D (D : Dn X.prog X.w X.K X.mg X.base CX k x ps sp) (hr : Room k X.A) (hg : Gl X x) (hx : Passes CX X E) (ha : PA X (e :: es) t)
    (hdb : (x == ("__debug__" : Str)) = false := by decide) (he : starEach (e :: es) X.env = (false, eval e X.env) :: starEach es X.env := by rfl) (hpl : (backTo pos (starEach es X.env)).any (·.1) = false := by rfl) : PE X (.Call (.Name x p) (e :: es) [] pos) (tCall sp [] E t) :=
  let ⟨_, _, kp, b, g, G⟩ := D.ex
  pe_call G hr hg g kp b .nil hx ha hdb he hpl
theorem pe_D0 (D : Dn X.prog X.w X.K X.mg X.base CX k x ps sp) (hr : Room k X.A) (hg : Gl X x) (hx : Passes CX X E) (hdb : (x == ("__debug__" : Str)) = false := by decide) : PE X (.Call (.Name x p) [] [] pos) (tCall sp [] E tNil) :=
  let ⟨_, _, kp, b, g, G⟩ := D.ex
  pe_call0 G hr hg g kp b .nil hx hdb
theorem pe_DS (D : Dn X.prog X.w X.K X.mg X.base CX k x ps sp) (hr : Room k X.A) (hg : Gl X x) (hx : ∀ σ, PassesAt CX X σ (W σ)) (ha : PA X (e :: es) t)
    (hdb : (x == ("__debug__" : Str)) = false := by decide) (he : starEach (e :: es) X.env = (false, eval e X.env) :: starEach es X.env := by rfl) (hpl : (backTo pos (starEach es X.env)).any (·.1) = false := by rfl) : PE X (.Call (.Name x p) (e :: es) [] pos) (tCallS sp W t) :=
  let ⟨_, _, kp, b, g, G⟩ := D.ex
  pe_callS G hr hg g kp b hx ha hdb he hpl
end
end Nb

set_option Elab.async false
set_option maxRecDepth 100000
set_option maxHeartbeats 4000000
/-! A caught error that is asked behind its handler: it is told in the heap from then on. -/
namespace Nb
open PySem PySem.Spec PyProof.Rows L2
/-- an error of the class cls, its dict at d, that flies no more -/
def Ke (cls : Value) (d : Option Addr) (a : Addr) : HO := .ext fun h => ∃ (oe : Obj) (vs : Array Value), h.get? a = some oe ∧ Zc cls d oe ∧ oe.data = .fields vs
theorem ke_ok {P : Program} {w : World} {H : Hp} {h : Heap} {a : Addr} {cls : Value} {d : Option Addr} {oe : Obj} {vs : Array Value} (e : h.get? a = some oe) (z : Zc cls d oe) (f : oe.data = .fields vs) : ObjOk P w H h a (Ke cls d a) :=
  ⟨⟨oe, vs, e, z, f⟩, ⟨oe, e⟩, fun _ _ ⟨o, ws, e1, z1, f1⟩ k => ⟨o, ws, k o e1, z1, f1⟩⟩
theorem ke_at {P : Program} {w : World} {H : Hp} {h : Heap} {a : Addr} {cls : Value} {d : Option Addr} (hok : HOk P w H h) (e : H a = some (Ke cls d a)) : ∃ (oe : Obj) (vs : Array Value), h.get? a = some oe ∧ Zc cls d oe ∧ oe.data = .fields vs := (show ObjOk P w H h a (Ke cls d a) from hok a _ e).1
section
variable {X : Cx} {pins : List (Addr × Obj)} {σ : L2.St} {H : Hp} {s : Shared} {a : Addr}
/-- what is new since the def began, and stands nowhere, may be told -/
theorem inv_tell {o : HO} (I : Inv X pins σ H s) (na : H a = none) (n0 : X.s_0.heap.get? a = none) (nL : a ≠ X.env.locals) (nC : ∀ v, ¬ s.heap.IsCell a v) (nP : ∀ p ∈ X.pn ++ pins, p.1 ≠ a) (ho : ObjOk X.prog X.w (upd H a o) s.heap a o) :
    Inv X pins σ (upd H a o) s := by
  have ne : ∀ {b : Addr} {u : HO}, H b = some u → b ≠ a := fun e => ne_of_none e na
  refine ⟨I.ok, I.os, I.bare, ?_, I.loc, I.cell, ?_, ?_, ?_, ?_, I.len⟩
  · refine ⟨I.base.keep, I.base.slot, fun b ob e n hx => ?_, I.base.there, fun b xs e => ?_, fun b ob u e => ?_, fun b ps e => ?_⟩
    · have nb : b ≠ a := fun z => by
        rw [z, n0] at e
        cases e
      rw [upd_ne nb]
      exact I.base.free b ob e n hx
    · have t := I.base.tups b xs e
      rw [upd_ne (ne t)]
      exact t
    · have t := I.base.frzs b ob u e
      rw [upd_ne (ne t)]
      exact t
    · obtain ⟨m, t⟩ := I.base.tbls b ps e
      exact ⟨m, by rw [upd_ne (ne t)]; exact t⟩
  · rw [upd_ne (Ne.symm nL)]
    exact I.free
  · intro y c hc
    have nc : c ≠ a := fun z => by
      obtain ⟨v, hv⟩ := I.cell y c hc
      exact nC v (z ▸ hv)
    rw [upd_ne nc]
    exact I.freeC y c hc
  · intro p hp
    obtain ⟨p1, p2, p3⟩ := I.pin p hp
    exact ⟨p1, by rw [upd_ne (nP p hp)]; exact p2, p3⟩
  · intro b u e
    by_cases hb : b = a
    · subst hb
      rw [upd_same] at e
      cases e
      exact ho
    · rw [upd_ne hb] at e
      exact (I.hok b u e).stay (fun c v _ q => q) (fun c q => by rw [upd_ne (ne q)]; exact q) fun c xs q => by rw [upd_ne (ne q)]; exact q
end
/-- what such a clause wishes of an error of the body: slot i is the name of the clause -/
def wKept (K : PySem.W.Frag) (c : Value) (i : Nat) (ts : Addr → Value → Option Addr → TS) (D : Ends) : WX := fun cls d σ H =>
  PySem.W.exmOne K cls c = some true ∧ ∀ a, H a = none → ts a cls d { nx := fun σ' H' => D.nx (σ'.set i none) (upd H' a (Ke cls d a)), rt := fun v H' => D.rt v (upd H' a (Ke cls d a)), bk := fun σ' H' => D.bk (σ'.set i none) (upd H' a (Ke cls d a)), ct := fun σ' H' => D.ct (σ'.set i none) (upd H' a (Ke cls d a)) } (σ.set i (some (.ref a))) H
section
variable {X : Cx} {nm : Str} {c : Value} {i : Nat} {x : Str} {body su : List Stmt} {b1 : Stmt} {px p1 p2 : Pos} {tb : WX → TS} {ts : Addr → Value → Option Addr → TS}
/-- try: .. except C as n: .., where the body lets out nothing but errors of C: what is caught is told in the heap behind the clause -/
theorem ps_try_kept (st : X.stack = X.env :: X.outer) (fl : X.env.frame = some X.env.locals) (x0 : X.ex = []) (nd : X.N.Nodup) (at_ : X.N[i]? = some nm) (lc : X.env.kindOf nm = some .local) (cn : Names X x c)
    (tbd : ∀ (W : WX) (pn : List (Addr × Obj)) (xe : Value → Shared → Prop), Takes (X.tr pn xe) W → PassesOwn (model X.prog X.w) X.A X.env xe → PSs (X.tr pn xe) body (tb W))
    (tsu : ∀ (a : Addr) (oe : Obj) (cls : Value) (d : Option Addr) (pn : List (Addr × Obj)), Zc cls d oe → (∃ vs, oe.data = .fields vs) → PSs (X.suite a ((a, oe) :: pn)) (b1 :: su) (ts a cls d)) :
    PS X (.Try body [.ExceptHandler (some (.Name x px)) (some nm) (b1 :: su) p1] [] [] p2) (fun D σ H => tb (wKept X.K c i ts D) D σ H) := by
  refine ⟨fun pins s σ H D I h => wpAny_Try_except ?_⟩
  have ok := I.ok
  have fr : X.A.frames = some (X.env :: X.outer) := by rw [ok.frames, st]
  refine wpAny_mono ((tbd (wKept X.K c i ts D) (X.pn ++ pins) _ ?take PassesOwn.looking).run [] s σ H D (I.toTry _) h) (fun f s1 r => ?done) (fun e s1 r => r)
  case done =>
    cases f with
    | next =>
      obtain ⟨σ1, H1, J, r⟩ := r
      exact wpAny_execs_nil ⟨σ1, H1, J.ofTry ok, r⟩
    | ret u =>
      obtain ⟨v, σ1, H1, J, e, r⟩ := r
      exact ⟨v, σ1, H1, J.ofTry ok, e, r⟩
    | brk =>
      obtain ⟨σ1, H1, J, r⟩ := r
      exact ⟨σ1, H1, J.ofTry ok, r⟩
    | cont =>
      obtain ⟨σ1, H1, J, r⟩ := r
      exact ⟨σ1, H1, J.ofTry ok, r⟩
  case take =>
    rintro u s1 ⟨a, B, s0, ps, σ1, H1, cls, d, rfl, J0, inB, up, sky, na, os, ag, mt, yes⟩
    have J := J0.ofTry (pn' := ps) ok
    have sky1 : Sky B (X.env :: X.outer) a (Zc cls d) X.env.locals s1.heap := st ▸ sky
    have notB : B.get? a = none := by
      rcases sky1 with k | k | k
      · exact k.2.1
      · exact k.2.1
      · exact k.2.1
    refine Sky.land Zc.steady fr fl sky1 fun h2 f2 up2 => ?_
    have J2 : Inv X pins σ1 H1 { s1 with heap := h2 } := J.landed inB f2.1 (up.trans up2) os ag
    obtain ⟨o2, w2, e2, z2, d2⟩ := f2.there
    have out : a ∉ frs (X.env :: X.outer) := fun hm => by
      obtain ⟨_, o, eo, no⟩ := f2.2.2.1.mem hm
      rw [e2] at eo
      cases eo
      exact no _ d2
    have nL : a ≠ X.env.locals := fun z => out (List.mem_filterMap.mpr ⟨X.env, List.mem_cons_self, by rw [fl, z]⟩)
    have nF : a ∉ X.fs := fun hm => by
      obtain ⟨e, he, q⟩ := List.mem_filterMap.mp hm
      exact out (List.mem_filterMap.mpr ⟨e, List.mem_cons_of_mem _ he, q⟩)
    have gone : ∀ {b : Addr} {o : Obj}, s0.heap.get? b = some o → b ∉ frs X.stack → b ≠ a := fun e n z => by
      have q := inB _ _ e n
      rw [z, notB] at q
      cases q
    have outS : a ∉ frs X.stack := st ▸ out
    have new0 : X.s_0.heap.get? a = none := by
      cases e : X.s_0.heap.get? a with
      | none => rfl
      | some o =>
        obtain ⟨o', e'⟩ := J.base.there a o e (by rw [x0]; exact fun z => nomatch z)
        exact absurd rfl (gone e' outS)
    have nP : ∀ p ∈ X.pn ++ pins, p.1 ≠ a := fun p hp => by
      obtain ⟨g1, _, g3, g4, _⟩ := J.pin p hp
      refine gone g1 fun hm => ?_
      rw [st] at hm
      obtain ⟨e, he, q⟩ := List.mem_filterMap.mp hm
      rcases List.mem_cons.mp he with rfl | he
      · rw [fl] at q
        exact g3 (Option.some.inj q).symm
      · exact g4 (List.mem_filterMap.mpr ⟨e, he, q⟩)
    have S2 := J2.suite e2 d2 na nL nF
    have isC : PySem.W.Looks (model X.prog X.w) h2 (typeOf (.ref a)) cls := fun A Q E s k q => wpAny_typeOf_ref (k _ _ e2) (by rw [z2.1]; exact q)
    have asks := PySem.W.exm_one (M := model X.prog X.w) J2.kIn isC mt
    have named : ∀ {Q : Value → Shared → Prop} {E : Value → Shared → Prop}, Q c { s1 with heap := h2 } → wpAny (model X.prog X.w) (X.A.mark (some (.ref a))) (eval (.Name x px) X.env) Q E { s1 with heap := h2 } := fun q => by
      rcases cn with ⟨g1, g2, g3 | ⟨g3, g4, g5⟩⟩
      · exact ld_glob (X := X.suite a ((a, o2) :: (X.pn ++ pins))) S2 g1 g3 q g2
      · exact ld_blt (X := X.suite a ((a, o2) :: (X.pn ++ pins))) S2 g1 g3 g4 q g5 g2
    refine wpAny_handleBy_cons (codeAny_handlers_test (named (asks.here ?_))) fun q => nomatch q
    refine codeAny_handlers_suite_as (HandSPX.lands_againZ f2 fun h3 f3 up3 => ?_)
    have J3 : Inv X pins σ1 H1 { s1 with heap := h3 } := J.landed inB f3.1 ((up.trans up2).trans up3) os ag
    obtain ⟨o3, w3, e3, z3, d3⟩ := f3.there
    refine store_ok (X := X.suite a ((a, o3) :: (X.pn ++ pins))) (v := .ref a) (J3.suite e3 d3 na nL nF) nd at_ (.inl lc) rfl (fun s4 S4 => ?_) (.inr lc)
    refine wpAny_mono ((tsu a o3 cls d (X.pn ++ pins) z3 ⟨_, d3⟩).run [] s4 _ H1 _ S4 (yes a na)) (fun f s5 r => ?_) (fun _ _ z => False.elim z)
    have close : ∀ {σ5 : L2.St} {H5 : Hp} {Q : Shared → Prop}, Inv (X.suite a ((a, o3) :: (X.pn ++ pins))) [] σ5 H5 s5 → (∀ s6, Inv X pins (σ5.set i none) (upd H5 a (Ke cls d a)) s6 → Q s6) →
        wpAny (model X.prog X.w) X.A (do bindName X.env nm .none; unbindBehindTheSuite X.env nm p1) (fun _ s6 => Q s6) X.xe s5 := fun {σ5 H5 Q} S5 q => by
      obtain ⟨g1, g2, _⟩ := S5.pin (a, o3) (List.mem_append_left _ List.mem_cons_self)
      have g1 : s5.heap.get? a = some o3 := g1
      refine gone_ok (inv_tell (S5.unsuite ok) g2 new0 nL (fun v hv => ?_) nP (ke_ok g1 z3 d3)) nd at_ lc q
      obtain ⟨o, ho, hd⟩ := hv
      rw [g1] at ho
      cases ho
      rw [d3] at hd
      cases hd
    cases f with
    | next =>
      obtain ⟨σ5, H5, S5, r⟩ := r
      exact close S5 fun s6 J6 => ⟨_, _, J6, r⟩
    | ret u =>
      obtain ⟨v, σ5, H5, S5, e, r⟩ := r
      exact close S5 fun s6 J6 => ⟨_, _, _, J6, e, r⟩
    | brk =>
      obtain ⟨σ5, H5, S5, r⟩ := r
      exact close S5 fun s6 J6 => ⟨_, _, J6, r⟩
    | cont =>
      obtain ⟨σ5, H5, S5, r⟩ := r
      exact close S5 fun s6 J6 => ⟨_, _, J6, r⟩
end
/-- an error that is told, with its fields -/
def KeptAt (H : Hp) (a D dd : Addr) (fs : List (Str × V)) : Prop := H a = some (Ke (.ref D) (some dd) a) ∧ H dd = some (.xd fs)
theorem kept_same {H H' : Hp} {a D dd : Addr} {fs : List (Str × V)} (s : Same H H') (h : KeptAt H a D dd fs) : KeptAt H' a D dd fs := ⟨s _ _ h.1, s _ _ h.2⟩
theorem kept_inst {P : Program} {w : World} {H : Hp} {h : Heap} {a D dd : Addr} {fs : List (Str × V)} (hok : HOk P w H h) (k : KeptAt H a D dd fs) :
    ∃ (oe od : Obj) (mA : Str → Option Value), PySem.W.InstAt h a oe D (some od) ∧ h.Ns1 dd mA ∧ (∀ f, RelO (fs.lookup f) (mA f)) ∧ ∀ f, PySem.W.lookIn f od = some (mA f) := by
  obtain ⟨oe, vs, e1, z1, f1⟩ := ke_at hok k.1
  have x : ObjOk P w H h dd (.xd fs) := hok dd _ k.2
  obtain ⟨mA, hns, hr⟩ := x
  obtain ⟨od, ho, hl⟩ := lookIn_ns hns
  refine ⟨oe, od, mA, ⟨e1, z1.1, ?_, ?_⟩, hns, hr, fun f => ?_⟩
  · unfold PySem.W.notCls
    rw [f1] <;> rfl
  · rw [z1.2]
    exact ho
  · exact hl f
/-- e.f of such an error -/
def tKf (K : PySem.W.Frag) (f : Str) (te : TE) : TE := fun σ H Q => te σ H fun x H1 => ∃ (a D dd : Addr) (fs : List (Str × V)) (v : V), x = .ref a ∧ XfC K D ∧ PySem.W.findIn K (.ref D) f = some none ∧ KeptAt H1 a D dd fs ∧ fs.lookup f = some v ∧ Q v H1
theorem pe_kf {X : Cx} {e : Expr} {te : TE} {pos : Pos} {f : Str} (he : PE X e te) (hb : attributeBase e f X.env (eval e X.env) = eval e X.env := by rfl) : PE X (.Attribute e f pos) (tKf X.K f te) := by
  refine ⟨fun pins s σ H Q I h => attr_of hb (thn (he.run pins s σ H _ I h) fun u s1 k => ?_)⟩
  obtain ⟨x, H1, I1, rx, a, D, dd, fs, v, rfl, T, no, ka, l, q⟩ := k
  cases rx
  obtain ⟨oe, od, mA, J, hns, hr, hl⟩ := kept_inst I1.hok ka
  obtain ⟨u, hu, ru⟩ := RelO.some_of (v := v) (o := mA f) (by rw [← l]; exact hr f)
  exact HandSPX.exc_get I1.kIn J T.ga T.gg T.exC (PySem.W.findObj_own T.hdC no rfl (by rw [hl, hu])) (handed_of ru) ⟨v, H1, I1.tok _, ru, q⟩
/-- isinstance(e, c) of such an error -/
def rIsK (K : PySem.W.Frag) : List V → Hp → VK → Prop := fun xs H Q => ∃ (a D dd : Addr) (fs : List (Str × V)) (c : V) (cv : Value) (b : Bool), xs = [.ref a, c] ∧ ExcC K D ∧ KeptAt H a D dd fs ∧ (∀ u, RelV c u → u = cv) ∧ PySem.W.kitOne K (.ref D) cv = some b ∧ Q (.bl b) H
theorem call_isK {X : Cx} : CallR X (.builtin "isinstance") (rIsK X.K) := by
  intro pins s σ H xs us Q I r h
  obtain ⟨a, D, dd, fs, c, cv, b, rfl, C, ka, hcv, e, q⟩ := h
  obtain ⟨oe, od, mA, J, _⟩ := kept_inst I.hok ka
  cases r with
  | cons rx rr => cases rr with
    | cons rt rr =>
      cases rr
      cases rx
      cases hcv _ rt
      obtain ⟨cd, hc, _⟩ := PySem.W.any_some C.hd
      exact PySem.W.kia_one (PySem.W.kitx_exc (by rw [hc]; rfl) C.hg C.hk C.hs C.ha C.hn C.ht C.hm) I.kIn J e (fun z => nomatch z) fun tk => ⟨.bl b, H, I.kept (t' := tk) fun _ _ z => z, rfl, q⟩
end Nb

set_option Elab.async false
set_option maxRecDepth 100000
set_option maxHeartbeats 4000000
/-! An own error that is made and held as a value, not raised: told in the heap at once. -/
namespace Nb
open PySem PySem.Spec PyProof.Rows L2
/-- what the making of an error wishes, where the error is a value -/
def tKept (t : L2.St → Hp → XK → Prop) : TE := fun σ H Q => t σ H fun cls d H' => ∀ a, H' a = none → Q (.ref a) (upd H' a (Ke cls d a))
theorem pe_kept {X : Cx} {e : Expr} {t : L2.St → Hp → XK → Prop} (x0 : X.ex = []) (st : X.stack = X.env :: X.outer) (fl : X.env.frame = some X.env.locals) (he : PMk X e t) : PE X e (tKept t) := by
  refine ⟨fun pins s σ H Q I h => wpAny_mono (he pins s σ H _ I h) (fun u s1 r => ?_) fun _ _ z => z⟩
  obtain ⟨a, oe, vs, s0, H1, cls, d, rfl, J, k, na0, ea, zc, dv, _, na, os, ag, _, q⟩ := r
  have ok := J.ok
  have J1 : Inv X pins σ H1 s1 := by
    have J2 := J.call (ch := []) (h' := s1.heap) (g' := s1.gens) (t' := s1.toks) (d' := s1.drawn) (H' := H1)
      ⟨fun b o e _ _ _ => k b o e, fun b o e _ _ _ => ⟨o.slots, k b o e⟩, fun _ _ _ n _ => n, fun b o e _ => ⟨o, k b o e⟩, fun _ _ e => e, fun _ _ _ e => e, fun b ps e => ⟨#[], by rw [e]; simp⟩⟩ (J.hok.kept k) ag (fun _ z => nomatch z)
    obtain ⟨a1, a2, a3, a4, a5⟩ := s1
    cases (show a5 = s0.os from os)
    exact J2
  have gone : ∀ {b : Addr} {o : Obj}, s0.heap.get? b = some o → b ≠ a := fun e z => by
    rw [z, na0] at e
    cases e
  have n0 : X.s_0.heap.get? a = none := by
    cases e : X.s_0.heap.get? a with
    | none => rfl
    | some o =>
      obtain ⟨o', e'⟩ := J.base.there a o e (by rw [x0]; exact fun z => nomatch z)
      exact absurd rfl (gone e')
  have nL : a ≠ X.env.locals := fun z => by
    obtain ⟨m, hn, _⟩ := J.loc
    obtain ⟨o, _, _, e, _⟩ := hn
    exact gone e z.symm
  refine ⟨.ref a, upd H1 a (Ke cls d a), inv_tell J1 na n0 nL (fun v hv => ?_) (fun p hp => gone (J.pin p hp).1) (ke_ok ea zc dv), rfl, q a na⟩
  obtain ⟨o, ho, hd⟩ := hv
  rw [ea] at ho
  cases ho
  rw [dv] at hd
  cases hd
end Nb

set_option Elab.async false
set_option maxRecDepth 100000
set_option maxHeartbeats 4000000
/-! Own errors over any of four built-in classes, whose __init__ stores its arguments under their names. -/
namespace Nb
open PySem PySem.Spec PyProof.Rows Builtin.ObjectAttr
open L2 hiding del del_ne del_same
/-- the built-in class below -/
structure Over (B nw ini : String) (bm : List Value) : Prop where
  fb : ExcBaseFacts B nw ini bm
  sf : StoreFacts B bm "object.__setattr__" "object"
theorem overV : Over "ValueError" "ValueError.__new__" "ValueError.__init__" [.type "ValueError", .type "Exception", .type "BaseException", .type "object"] := ⟨F.excBase_ValueError, F.store_ValueError⟩
theorem overA : Over "ArithmeticError" "ArithmeticError.__new__" "ArithmeticError.__init__" [.type "ArithmeticError", .type "Exception", .type "BaseException", .type "object"] := ⟨F.excBase_ArithmeticError, F.store_ArithmeticError⟩
theorem overL : Over "LookupError" "LookupError.__new__" "LookupError.__init__" [.type "LookupError", .type "Exception", .type "BaseException", .type "object"] := ⟨F.excBase_LookupError, F.store_LookupError⟩
theorem overR : Over "RuntimeError" "RuntimeError.__new__" "RuntimeError.__init__" [.type "RuntimeError", .type "Exception", .type "BaseException", .type "object"] := ⟨F.excBase_RuntimeError, F.store_RuntimeError⟩
/-- what the written part says of an own error class -/
structure ErrC (K : PySem.W.Frag) (C : Addr) : Prop where
  ov : ∃ B nw ini bm, Over B nw ini bm ∧ PySem.W.excInitIn K C bm nw = true ∧ PySem.W.excOver K C bm = true
  sa : PySem.W.findIn K (.ref C) "__setattr__" = some (some (.builtin "object.__setattr__"))
  tyC : PySem.W.typeIn K (.ref C) = some (.type "type")
  kC : PySem.W.keepIn K (.ref C) = true
  ex : ExcC K C
theorem taker_of {K : PySem.W.Frag} {C : Addr} {f : Str} (h : PySem.W.findIn K (.ref C) f = some none) : PySem.W.takerIn K C f = some none := by
  unfold PySem.W.takerIn
  rw [h]
  rfl
section
variable {X : Cx} {pins : List (Addr × Obj)} {σ : L2.St} {H : Hp} {s : Shared} {a C d : Addr} {f : Str} {y : V} {u : Value} {fs : List (Str × V)} {Q : Unit → Shared → Prop} {E : Value → Shared → Prop} {A : Around}
theorem put_first (T : ErrC X.K C) (I : Inv X pins σ H s) (e : H a = some (exo a C none)) (hno : PySem.W.findIn X.K (.ref C) f = some none) (ry : RelV y u)
    (h : ∀ d s', H d = none → d ≠ a → Inv X pins σ (upd (upd (upd H d (exd d [])) a (exo a C (some d))) d (exd d [(f, y)])) s' → Q () s') : wpAny (model X.prog X.w) A (setAttr (.ref a) f u) Q E s := by
  obtain ⟨t1, ho⟩ := exo_at I.hok e
  obtain ⟨B, nw, ini, bm, ov, q1, q2⟩ := T.ov
  obtain ⟨cd, hc, hd⟩ := PySem.W.any_some T.ex.hd
  obtain ⟨hp, g, dr, t, os⟩ := s
  have la : a < hp.objs.size := Heap.lt_size ho
  refine PySem.W.set_plain (od := none) I.kIn ⟨ho, rfl, rfl, trivial⟩ T.sa ?_
  refine PySem.W.osa_openX (od := none) ov.sf I.kIn ⟨ho, rfl, rfl, trivial⟩ q2 (taker_of hno) fun b => ?_
  refine wpAny_bind (wpAny_pure (wpAny_bind (PySem.W.instanceDict_exc (c2 := .none) ho (PySem.W.looks_clsIn I.kIn hc) hd ?_)))
  have sz : hp.objs.size ≠ a := Nat.ne_of_gt la
  have e1 : (hp.push (PySem.W.dictOf [] 0)).get? hp.objs.size = some (PySem.W.dictOf [] 0) := Heap.get?_push_at rfl rfl
  have n1 : (hp.push (PySem.W.dictOf [] 0)).Ns hp.objs.size (fun _ => none) := ⟨_, #[], _, e1, rfl, fun e he => absurd he (by simp), fun _ => rfl⟩
  have I1 := I.laid (t' := t) (a := hp.objs.size) (o := exd hp.objs.size []) (h' := hp.push (PySem.W.dictOf [] 0)) (fun b o q => Heap.get?_push_of_some _ q) (Nat.le_refl _) (exd_ok (Heap.Ns1.of_empty n1) fun _ => True.intro)
  have h1 : (hp.push (PySem.W.dictOf [] 0)).get? a = some ({ cls := .ref C, data := .fields #[.ref t1, .none, .none, .none, .bool false, .none] } : Obj) := Heap.get?_push_of_some _ ho
  have I2 := I1.write (t' := t) (x := a) (e := a) (o := exo a C (some hp.objs.size)) (h' := (hp.push (PySem.W.dictOf [] 0)).update a fun o => { o with dict := some hp.objs.size }) (by rw [upd_ne (Ne.symm sz), e]; exact True.intro) (.inl rfl)
    (fun b o hb q => (Heap.get?_update_ne _ _ _ _ hb).trans q) ⟨_, Heap.get?_update_self _ h1 rfl⟩ (exo_ok (Heap.get?_update_self _ h1 rfl))
  have n2 : ((hp.push (PySem.W.dictOf [] 0)).update a fun o => { o with dict := some hp.objs.size }).Ns hp.objs.size (fun _ => none) :=
    ⟨_, #[], _, (Heap.get?_update_ne _ _ _ _ sz).trans e1, rfl, fun e he => absurd he (by simp), fun _ => rfl⟩
  show wpAny _ _ (storeInDict hp.objs.size (.str f _) f u) _ _ _
  refine PySem.HandSPX.store_in_new n2 fun h' tk' hn' hs => ?_
  have at2 : upd (upd H hp.objs.size (exd hp.objs.size [])) a (exo a C (some hp.objs.size)) hp.objs.size = some (exd hp.objs.size []) := by rw [upd_ne sz, upd_same]
  have hd2 : ∃ o, h'.get? hp.objs.size = some o := by
    obtain ⟨o, _, _, e', _⟩ := hn'
    exact ⟨o, e'⟩
  exact h _ _ (I.hok.fresh (Nat.le_refl _)) sz (I2.write (t' := tk') (x := hp.objs.size) (e := hp.objs.size) (o := exd hp.objs.size [(f, y)]) (by rw [at2]; exact True.intro) (.inl rfl) (fun b o hb q => (hs.2 b hb).trans q) hd2
    (exd_ok hn' (relO_put (fs := []) ry fun _ => True.intro)))
theorem put_more (T : ErrC X.K C) (I : Inv X pins σ H s) (e : H a = some (exo a C (some d))) (ed : H d = some (exd d fs)) (hl : fs.length ≤ 900) (hno : PySem.W.findIn X.K (.ref C) f = some none) (ry : RelV y u)
    (h : ∀ s', Inv X pins σ (upd H d (exd d ((f, y) :: fs))) s' → Q () s') : wpAny (model X.prog X.w) A (setAttr (.ref a) f u) Q E s := by
  obtain ⟨t1, ho⟩ := exo_at I.hok e
  obtain ⟨mA, hns, rel⟩ := exd_at I.hok ed
  have hw := within_of rel
  obtain ⟨B, nw, ini, bm, ov, q1, q2⟩ := T.ov
  obtain ⟨cd, hc, hd⟩ := PySem.W.any_some T.ex.hd
  obtain ⟨hp, g, dr, t, os⟩ := s
  obtain ⟨oD, _, _, hoD, _, _⟩ := hns.count hw
  refine PySem.W.set_plain (od := some oD) I.kIn ⟨ho, rfl, rfl, hoD⟩ T.sa ?_
  refine PySem.W.osa_openX (od := some oD) ov.sf I.kIn ⟨ho, rfl, rfl, hoD⟩ q2 (taker_of hno) fun b => ?_
  refine wpAny_bind (wpAny_pure (wpAny_bind (wpAny_bind (wpAny_loadPart ho (wpAny_bind ((PySem.W.looks_clsIn I.kIn hc).at ?_))))))
  rw [hd]
  refine wpAny_pure (a := some d) ?_
  refine PySem.OEX.store_in_old hns hw (by rw [List.length_map]; omega) fun h' tk' hn' hs => ?_
  have hd2 : ∃ o, h'.get? d = some o := by
    obtain ⟨o, _, _, e', _⟩ := hn'
    exact ⟨o, e'⟩
  exact h _ (I.write (t' := tk') (x := d) (e := d) (o := exd d ((f, y) :: fs)) (by rw [ed]; exact True.intro) (.inl rfl) (fun b o hb q => (hs.2 b hb).trans q) hd2 (exd_ok hn' (relO_put ry rel)))
end
/-- H is H0 and, at a, an error of C that is being made, with the fields fs -/
def Mkg (H0 H : Hp) (a C : Addr) (fs : List (Str × V)) : Prop := H0 a = none ∧ ((fs = [] ∧ H = upd H0 a (exo a C none)) ∨ ∃ d, H0 d = none ∧ d ≠ a ∧ H = upd (upd H0 d (exd d fs)) a (exo a C (some d)))
def tPut (K : PySem.W.Frag) (f : Str) (to te : TE) : TS := fun D σ H => te σ H fun y H1 => to σ H1 fun x H2 => ∃ (a C : Addr) (H0 : Hp) (fs : List (Str × V)), x = .ref a ∧ ErrC K C ∧ PySem.W.findIn K (.ref C) f = some none ∧ fs.length ≤ 900 ∧ Mkg H0 H2 a C fs ∧ ∀ H3, Mkg H0 H3 a C ((f, y) :: fs) → D.nx σ H3
theorem ps_put {X : Cx} {o e : Expr} {to te : TE} {f : Str} {p' pos : Pos} (ho : PE X o to) (he : PE X e te) (hs : swapsWith e (some (.Attribute o f p')) pos.line X.env = pure false := by rfl) : PS X (.Assign [.Attribute o f p'] e pos) (tPut X.K f to te) := by
  refine ⟨fun pins s σ H D I h => ?_⟩
  refine plainObj_wpAny_Assign_Attribute (thn (he.run pins s σ H _ I h) fun v s1 ⟨y, H1, I1, r1, q1⟩ => thn (ho.run pins s1 σ H1 _ I1 q1) fun u s2 ⟨x, H2, I2, r2, a, C, H0, fs, ex, T, hno, hl, mk, q⟩ => ?_) hs
  subst ex
  cases (show u = Value.ref a from r2)
  obtain ⟨na, ⟨rfl, rfl⟩ | ⟨d, nd, ne, rfl⟩⟩ := mk
  · refine put_first T I2 upd_same hno r1 fun d s' n ne J => ⟨σ, _, J, q _ ⟨na, .inr ⟨d, ?_, ne, ?_⟩⟩⟩
    · rw [upd_ne ne] at n
      exact n
    · funext b
      by_cases h1 : b = d
      · subst h1
        rw [upd_same, upd_ne ne, upd_same]
      · rw [upd_ne h1]
        by_cases h2 : b = a
        · subst h2
          rw [upd_same, upd_same]
        · rw [upd_ne h2, upd_ne h1, upd_ne h2, upd_ne h2, upd_ne h1]
  · refine put_more T I2 upd_same (by rw [upd_ne ne, upd_same]) hl hno r1 fun s' J => ⟨σ, _, J, q _ ⟨na, .inr ⟨d, nd, ne, ?_⟩⟩⟩
    funext b
    by_cases h1 : b = d
    · subst h1
      rw [upd_same, upd_ne ne, upd_same]
    · rw [upd_ne h1]
      by_cases h2 : b = a
      · subst h2
        rw [upd_same, upd_same]
      · rw [upd_ne h2, upd_ne h2, upd_ne h1, upd_ne h1]
/-- __init__ of such a class: the fields are its parameters behind self -/
def spMk (K : PySem.W.Frag) (fs : List Str) : Sp := fun vs H Q _ => ∃ (a C : Addr) (H0 : Hp) (ws : List V), vs = .ref a :: ws ∧ ws.length = fs.length ∧ ErrC K C ∧ (∀ f ∈ fs, PySem.W.findIn K (.ref C) f = some none) ∧ Mkg H0 H a C [] ∧
  ∀ H', Mkg H0 H' a C (fs.zip ws).reverse → Q .non H'
/-- an error of C(e, ..), made: a dict with its fields is left -/
def tMkE0 (C : Addr) (fs : List Str) (ta : TA) : L2.St → Hp → XK → Prop := fun σ H Q => ∃ R : List V → Hp → Prop, ta σ H R ∧ ∀ vs H1, R vs H1 → vs.length = fs.length ∧ ∀ d, H1 d = none → Q (.ref C) (some d) (upd H1 d (.xd (fs.zip vs).reverse))
def tMkE (C : Addr) (fs : List Str) (ta : TA) : L2.St → Hp → XK → Prop := fun σ H Q => ta σ H fun vs H1 => vs.length = fs.length ∧ ∀ d, H1 d = none → Q (.ref C) (some d) (upd H1 d (.xd (fs.zip vs).reverse))
/-- all that is known of an own error class -/
structure Er (P : Program) (w : World) (K : PySem.W.Frag) (mg : Str → Option Value) (base : Heap) (x : Str) (C : Addr) (fs : List Str) : Prop where
  T : ErrC K C
  g : mg x = some (.ref C)
  no : ∀ f ∈ fs, PySem.W.findIn K (.ref C) f = some none
  len : fs.length ≤ 900
  pos : 1 ≤ fs.length
  ini : ∃ (fI : Addr) (fd : FuncData), PySem.W.findIn K (.ref C) "__init__" = some (some (.ref fI)) ∧ PySem.W.typeIn K (.ref fI) = some (.type "function") ∧ Binds K fd ("self" :: fs) [] ∧ FnOk P w K mg base CX0 1 fI fd ("self" :: fs) (spMk K fs)
section
variable {X : Cx} {x : Str} {C : Addr} {fs : List Str} {e : Expr} {es : List Expr} {ta : TA} {p pos : Pos}
theorem pmk_err0 (R : Er X.prog X.w X.K X.mg X.base x C fs) (hr : Room 2 X.A) (hg : Gl X x) (ha : PA X (e :: es) ta)
    (hdb : (x == ("__debug__" : Str)) = false := by decide) (he : starEach (e :: es) X.env = (false, eval e X.env) :: starEach es X.env := by rfl) (hpl : (backTo pos (starEach es X.env)).any (·.1) = false := by rfl) :
    PMk X (.Call (.Name x p) (e :: es) [] pos) (tMkE0 C fs ta) := by
  intro pins s σ H Q I ⟨R0, h, imp⟩
  obtain ⟨B, nw, ini, bm, ov, q1, _⟩ := R.T.ov
  obtain ⟨fI, fd, iC, tI, hb, F1⟩ := R.ini
  refine wpAny_Call_Name_kw (ld_glob I hg R.g ?_ hdb)
  refine PySem.W.callWith_K (h₀ := X.base) I.ok.mod.kin R.T.kC (thn (ha.run pos pins s σ H _ I h) fun us s1 ⟨vs, H1, I1, r1, q0⟩ => ⟨I1.kIn, ?_⟩) he hpl
  show wpAny _ _ (call (.ref C) us) _ _ _
  obtain ⟨hz, qf⟩ := imp vs H1 q0
  obtain ⟨hp, g, dr, tk, os⟩ := s1
  obtain ⟨nm, N, qn, bs, bm', hdct, sn, sub, ab, col, dd, k0, k1, k2, k3, k5, hC, hT⟩ := PySem.W.excInit_of I1.kIn q1
  have up1 : hp.objs.size ≤ hp.objs.size + 1 := Nat.le_succ _
  have hn : H1 (hp.objs.size + 1) = none := I1.hok.fresh up1
  have kk : ∀ b o, hp.get? b = some o → ((hp.push (PySem.W.kdv_tup us)).push (PySem.HandSPX.excO C hp.objs.size)).get? b = some o := fun b o e => Heap.get?_push_of_some _ (Heap.get?_push_of_some _ e)
  have ge : ((hp.push (PySem.W.kdv_tup us)).push (PySem.HandSPX.excO C hp.objs.size)).get? (hp.objs.size + 1) = some (PySem.HandSPX.excO C hp.objs.size) := by heap_get
  have I2 : Inv X pins σ (upd H1 (hp.objs.size + 1) (exo (hp.objs.size + 1) C none)) ⟨(hp.push (PySem.W.kdv_tup us)).push (PySem.HandSPX.excO C hp.objs.size), g, dr, tk, os⟩ :=
    I1.laid (t' := tk) (a := hp.objs.size + 1) (o := exo (hp.objs.size + 1) C none) (h' := (hp.push (PySem.W.kdv_tup us)).push (PySem.HandSPX.excO C hp.objs.size)) kk up1 (exo_ok ge)
  have r2 : Vals (V.ref (hp.objs.size + 1) :: vs) (Value.ref (hp.objs.size + 1) :: us) := .cons rfl r1
  have zl : us.length = fs.length := by rw [← Paired.length r1, hz]
  have hus : us.length ≤ sizeLine := by
    rw [zl, sizeLine_eq]
    exact Nat.le_trans R.len (by decide)
  refine wpAny_call (PySem.HandSPX.call_own ov.fb hT hC (PySem.W.looks_findIn I1.kIn iC) (fun self => PySem.W.bind_fn I1.kIn self tI) hus
    (codeAny_mono (F1.run _ X.stack _ _ ⟨Value.ref (hp.objs.size + 1) :: us, []⟩ (Value.ref (hp.objs.size + 1) :: us)
      (Q := fun v H2 => v = .non ∧ Mkg H1 H2 (hp.objs.size + 1) C (fs.zip vs).reverse) _ (fun _ _ _ => False) (hr.make C us []) (I2.env0.make C us [])
      (by simpa using hb _ (Value.ref (hp.objs.size + 1) :: us) I2.kIn (by rw [List.length_append, List.length_cons, zl]; rfl)) r2 ⟨_, C, H1, vs, rfl, hz, R.T, R.no, ⟨hn, .inl ⟨rfl, rfl⟩⟩, fun H' m => ⟨rfl, m⟩⟩) fun r s' hq' => ?_))
  cases r with
  | error er => exact False.elim hq'
  | ok fl =>
    cases fl with
    | ret u =>
      obtain ⟨v, H2, os2, bare2, un2, hok2, rv, ev, na, mk⟩ := hq'
      subst ev
      obtain ⟨h2, g2, d2, t2, os'⟩ := s'
      refine ⟨rv, ?_⟩
      rcases mk with ⟨mk, _⟩ | ⟨d, nd, ne, rfl⟩
      · have l0 := congrArg List.length mk
        rw [List.length_reverse, List.length_zip, ← hz, Nat.min_self, hz, List.length_nil] at l0
        have := R.pos
        omega
      · refine mk_end (raises_own R.T.ex.hs R.T.tyC) I1 up1 kk un2 hok2 os2 bare2 upd_same (by rw [upd_ne ne, upd_same]) nd ?_
        have e : upd (L2.del (upd (upd H1 d (exd d (fs.zip vs).reverse)) (hp.objs.size + 1) (exo (hp.objs.size + 1) C (some d))) (hp.objs.size + 1)) d (.xd (fs.zip vs).reverse) = upd H1 d (.xd (fs.zip vs).reverse) := by
          funext b
          by_cases h1 : b = d
          · rw [h1, upd_same, upd_same]
          · rw [upd_ne h1, upd_ne h1]
            by_cases h2 : b = hp.objs.size + 1
            · rw [h2, L2.del_same, hn]
            · rw [L2.del_ne h2, upd_ne h2, upd_ne h1]
        rw [e]
        exact qf d nd
    | next => exact False.elim hq'
    | brk => exact False.elim hq'
    | cont => exact False.elim hq'
theorem pmk_err (R : Er X.prog X.w X.K X.mg X.base x C fs) (hr : Room 2 X.A) (hg : Gl X x) (ha : PA X (e :: es) ta)
    (hdb : (x == ("__debug__" : Str)) = false := by decide) (he : starEach (e :: es) X.env = (false, eval e X.env) :: starEach es X.env := by rfl) (hpl : (backTo pos (starEach es X.env)).any (·.1) = false := by rfl) :
    PMk X (.Call (.Name x p) (e :: es) [] pos) (tMkE C fs ta) := fun pins s σ H Q I h => pmk_err0 R hr hg ha hdb he hpl pins s σ H Q I ⟨_, h, fun _ _ z => z⟩
end

/-- an error as a value: it is told, with its fields -/
def tErr (C : Addr) (fs : List Str) (ta : TA) : TE := fun σ H Q => ta σ H fun vs H1 => vs.length = fs.length ∧ ∀ H2 a d, Same H1 H2 → H1 a = none → H1 d = none → KeptAt H2 a C d (fs.zip vs).reverse → Q (.ref a) H2
theorem PE.weak {X : Cx} {e : Expr} {t u : TE} (h : PE X e t) (k : ∀ σ H Q, u σ H Q → t σ H Q) : PE X e u := ⟨fun pins s σ H Q I z => h.run pins s σ H Q I (k _ _ _ z)⟩
theorem pe_err {X : Cx} {x : Str} {C : Addr} {fs : List Str} {e : Expr} {es : List Expr} {ta : TA} {p pos : Pos} (x0 : X.ex = []) (st : X.stack = X.env :: X.outer) (fl : X.env.frame = some X.env.locals) (R : Er X.prog X.w X.K X.mg X.base x C fs) (hr : Room 2 X.A) (hg : Gl X x) (ha : PA X (e :: es) ta)
    (hdb : (x == ("__debug__" : Str)) = false := by decide) (he : starEach (e :: es) X.env = (false, eval e X.env) :: starEach es X.env := by rfl) (hpl : (backTo pos (starEach es X.env)).any (·.1) = false := by rfl) :
    PE X (.Call (.Name x p) (e :: es) [] pos) (tErr C fs ta) := by
  refine PE.weak (pe_kept x0 st fl (pmk_err0 R hr hg ha hdb he hpl)) fun σ H Q h => ⟨_, h, fun vs H1 ⟨l, q⟩ => ⟨l, fun d hd a ha => ?_⟩⟩
  have ne : a ≠ d := fun z => by rw [z, upd_same] at ha; cases ha
  have ha1 : H1 a = none := by rw [upd_ne ne] at ha; exact ha
  refine q _ a d ((same_new hd).trans (same_new ha)) ha1 hd ⟨upd_same, ?_⟩
  rw [upd_ne (Ne.symm ne), upd_same]
end Nb
namespace Nb
open PySem PySem.Spec PyProof.Rows Builtin.ObjectAttr
open L2 hiding del del_ne del_same
/-- all of it as one answer of the written part -/
def errB (K : PySem.W.Frag) (C : Addr) (bm : List Value) (nw : String) (fs : List Str) : Bool :=
  PySem.W.excInitIn K C bm nw && (PySem.W.excOver K C bm && (decide (PySem.W.findIn K (.ref C) "__setattr__" = some (some (.builtin "object.__setattr__"))) && (decide (PySem.W.typeIn K (.ref C) = some (.type "type")) && (PySem.W.keepIn K (.ref C) &&
  (decide (PySem.W.findIn K (.ref C) "__getattribute__" = some (some (.builtin "BaseException.__getattribute__"))) && (decide (PySem.W.findIn K (.ref C) "__getattr__" = some none) && (decide (PySem.W.subIn K (.ref C) (.type "BaseException") = some true) && (PySem.W.hasDictIn K C &&
  (decide (PySem.W.findIn K (.ref C) "__class__" = some (some (.builtin "object.__class__"))) && (decide (PySem.W.specialIn K (.builtin "object.__class__") "__get__" = some (some (.builtin "getset_descriptor.__get__"))) && (decide (PySem.W.takesIn K (.builtin "object.__class__") = some true) &&
  (decide (PySem.W.mroIn K C (.type "object") = some true) && fs.all fun f => decide (PySem.W.findIn K (.ref C) f = some none)))))))))))))
theorem er_mk {P : Program} {w : World} {K : PySem.W.Frag} {mg : Str → Option Value} {base : Heap} {x : Str} {C fI : Addr} {fd : FuncData} {fs : List Str} {B nw ini : String} {bm : List Value} (ov : Over B nw ini bm) (g : mg x = some (.ref C)) (q : errB K C bm nw fs = true)
    (i : PySem.W.findIn K (.ref C) "__init__" = some (some (.ref fI))) (t : PySem.W.typeIn K (.ref fI) = some (.type "function")) (b : Binds K fd ("self" :: fs) []) (G : FnOk P w K mg base CX0 1 fI fd ("self" :: fs) (spMk K fs)) (l1 : fs.length ≤ 900) (l2 : 1 ≤ fs.length) : Er P w K mg base x C fs := by
  unfold errB at q
  simp only [Bool.and_eq_true, decide_eq_true_eq, List.all_eq_true] at q
  obtain ⟨q1, q2, q3, q4, q5, q6, q7, q8, q9, q10, q11, q12, q13, q14⟩ := q
  exact ⟨⟨⟨B, nw, ini, bm, ov, q1, q2⟩, q3, q4, q5, ⟨q6, q7, q8, q9, q10, q11, q12, q13⟩⟩, g, q14, l1, l2, fI, fd, i, t, b, G⟩
theorem Er.xf {P : Program} {w : World} {K : PySem.W.Frag} {mg : Str → Option Value} {base : Heap} {x : Str} {C : Addr} {fs : List Str} (R : Er P w K mg base x C fs) : XfC K C := ⟨R.T.ex.hg, R.T.ex.hk, R.T.ex.hs, R.T.ex.hd⟩
/-- isinstance(e, (C, D, ..)) of a kept error -/
def rIsT (K : PySem.W.Frag) : List V → Hp → VK → Prop := fun xs H Q => ∃ (a D dd t : Addr) (fs : List (Str × V)) (cs : List V) (cvs : List Value) (b : Bool), xs = [.ref a, .ref t] ∧ ExcC K D ∧ KeptAt H a D dd fs ∧ SqT K H t cs ∧ (∀ us, Vals cs us → us = cvs) ∧ PySem.W.kitAny K (.ref D) cvs = some b ∧ Q (.bl b) H
theorem call_isKt {X : Cx} : CallR X (.builtin "isinstance") (rIsT X.K) := by
  intro pins s σ H xs us Q I r h
  obtain ⟨a, D, dd, t, fs, cs, cvs, b, rfl, C, ka, ht, hcv, e, q⟩ := h
  obtain ⟨oe, od, mA, J, _⟩ := kept_inst I.hok ka
  obtain ⟨its, ri, ⟨⟨tc, td, tdat, tsl⟩, et, ec1, n2, ed1⟩, _⟩ := I.tuple ht
  cases (show tc = Value.type "tuple" from ec1)
  cases (show tdat = Data.seq its.toArray n2 from ed1)
  cases r with
  | cons rx rr => cases rr with
    | cons rt rr =>
      cases rr
      cases rx
      cases rt
      obtain ⟨cd, hc, _⟩ := PySem.W.any_some C.hd
      have ec := hcv _ ri
      subst ec
      exact PySem.W.kia_tup (PySem.W.kitx_exc (by rw [hc]; rfl) C.hg C.hk C.hs C.ha C.hn C.ht C.hm) I.kIn J et e (fun z => nomatch z) fun tk => ⟨.bl b, H, I.kept (t' := tk) fun _ _ z => z, rfl, q⟩
end Nb

set_option Elab.async false
set_option maxRecDepth 100000
set_option maxHeartbeats 4000000
/-! A law whose own body asks for repr of nested data: its def is run where no repr is under way. -/
namespace Nb
open PySem PySem.Spec L2
/-- what the def promises, where no repr is under way -/
def RunsG (P : Program) (w : World) (K : PySem.W.Frag) (mg : Str → Option Value) (base : Heap) (CX : CXT) (k : Nat) (f : Addr) (fd : FuncData) (ps : List Str) (sp : Sp) : Prop :=
  ∀ (A : Around) (outer : List Env) (s : Shared) (H : Hp) (args : Args) (us : List Value) (vs : List V) (Q : VK) (E : XK), A.guards = some [] → Room k A → Env0 P w K mg base A outer s H → BindsTo s fd args (ps.zip us) → Vals vs us → sp vs H Q E →
    codeAny (model P w) A (.call (.ref f) args) (CR CX outer P w H s Q E) s
section
variable {P : Program} {w : World} {K : PySem.W.Frag} {mg : Str → Option Value} {base : Heap}
theorem okG {x qual : Str} {st : Stmt} {f : Addr} {fd : FuncData} {N ps : List Str} {k : Nat} {sp : Sp} (F : Fun K x qual st f fd) (S : FnScope N ps (defScope st)) (len : ∀ vs H Q E, sp vs H Q E → vs.length = ps.length)
    (bd : ∀ (cdv : Value) (A : Around) (outer : List Env) (s : Shared) (H : Hp) (vs : List V) (Q : VK) (E : XK), A.guards = some [] → Room k (A.deeper (PyProof.Rows.envOfC qual (defScope st) s.heap.objs.size f cdv)) → sp vs H Q E →
      ∃ t, PSs (cxOf CX0 P w K mg base N qual (defScope st) f cdv A outer s H E).nox (defBody st) t ∧ t { nx := fun _ H' => Q .non H', rt := Q } (start N vs) H) : RunsG P w K mg base CX0 (k + 1) f fd ps sp := by
  obtain ⟨oc, od, kV, doc, pm, an, cdv, ct, osl, rfl, lk, hcd⟩ := F.ex
  intro A outer s H args us vs Q E gd hr e0 hb rv hs
  have inK : K.In s.heap := e0.mod.kin.keeps fun b o e => (e0.bs b o e).1
  have nl : s.heap.NoLimit := e0.mod.nolimit.keeps fun b o e => (e0.bs b o e).1
  have kinds : ∀ y ∈ ps.zip us, (defScope st).names.lookup y.1 = some .local ∨ ((defScope st).names.lookup y.1 = some .cell ∧ ((PySem.cellsFrom (s.heap.objs.size + 1) (defScope st).names []).lookup y.1).isSome = true) := by
    rintro ⟨n, v⟩ hy
    exact (S.par n (List.of_mem_zip hy).1).imp id fun q => ⟨q, PySem.W.cellsFrom_some _ _ _ (.inl q)⟩
  refine codeAny_call_function hr.depth (inK _ _ lk) rfl S.co S.gen rfl (PySem.W.codeRec_of inK hcd) (hb _ _ _ _ ?_)
  refine wpAny_newFunctionEnv_cells S.kind kinds fun env he s1 x1 => ?_
  subst he
  obtain ⟨t, ht, q⟩ := bd cdv A outer s H vs Q E gd (hr.deeper _) hs
  have I : Inv (cxOf CX0 P w K mg base N qual (defScope st) f cdv A outer s H E) [] (start N vs) H s1 := inv_start S hr.hd e0 (len _ _ _ _ hs) rv x1
  refine ⟨nl.keeps x1.toInCall.keep, codeAny_func (wpAny_mono (ht.nox.run [] s1 (start N vs) H _ I q) (fun fl s2 r => ?_) fun _ _ r => r)⟩
  cases fl with
  | ret u =>
    obtain ⟨v, σ, H2, J, e, r⟩ := r
    exact ⟨v, H2, J.os, J.bare, J.base, J.hok, e, r⟩
  | next =>
    obtain ⟨σ, H2, J, r⟩ := r
    exact ⟨.non, H2, J.os, J.bare, J.base, J.hok, rfl, r⟩
  | brk => exact False.elim r.choose_spec.choose_spec.2
  | cont => exact False.elim r.choose_spec.choose_spec.2
end
open PyProof.Rows (IntsAre AllBare)
/-- the heap at the law's call: nothing is told but the script, if it is no object of the module -/
theorem script_heap {P : Program} {w : World} {K : PySem.W.Frag} {h : Heap} {a : Addr} {vs : List Value} {ns : List Int} (inK : K.In h) (ea : h.get? a = some { cls := .type "list", data := .seq vs.toArray }) (hi : IntsAre vs ns) (hl : ns.length ≤ sizeLine) :
    ∃ H : Hp, Only H ∧ SqL K H a (ns.map V.int) ∧ HOk P w H h ∧ ∀ b, H b ≠ none → b = a ∧ K.lookup b = none := by
  have rv := vals_ints hi
  cases hk : K.lookup a with
  | none =>
    obtain ⟨H, eH⟩ : ∃ H : Hp, H = upd (fun _ => none) a (.frz { cls := .type "list", data := .seq vs.toArray } (.lst (ns.map V.int))) := ⟨_, rfl⟩
    have at_a : H a = some (.frz { cls := .type "list", data := .seq vs.toArray } (.lst (ns.map V.int))) := by
      rw [eH]
      exact upd_same
    have off : ∀ b, b ≠ a → H b = none := fun b hb => by
      rw [eH, upd_ne hb]
    refine ⟨H, fun b => ?_, .inl (.inr ⟨_, at_a⟩), fun b o e => ?_, fun b e => ?_⟩
    · by_cases hb : b = a
      · exact .inr ⟨_, _, hb ▸ at_a⟩
      · exact .inl (off b hb)
    · by_cases hb : b = a
      · subst hb
        rw [at_a] at e
        cases e
        exact ⟨ea, by rw [List.length_map]; exact hl, vs, _, rv, ea⟩
      · rw [off b hb] at e
        cases e
    · by_cases hb : b = a
      · exact ⟨hb, hb ▸ hk⟩
      · exact absurd (off b hb) e
  | some o =>
    have e := inK a o hk
    rw [ea] at e
    cases e
    exact ⟨fun _ => none, fun _ => .inl rfl, .inr ⟨_, vs.toArray, _, hk, rfl, rfl, rfl, by rw [List.size_toArray, hi.length]; exact hl, by simpa using rv⟩, fun b u z => (nomatch (show (none : Option HO) = some u from z)), fun b z => absurd rfl z⟩
theorem law_runs {P : Program} {w : World} {K : PySem.W.Frag} {mg mb : Str → Option Value} {CX : CXT} {k : Nat} {fa a : Addr} {fd : FuncData} {x : Str} {sp : Sp} {s1 : Shared} {vs : List Value} {ns : List Int}
    (inK : K.In s1.heap) (n1 : s1.heap.Ns mainGlobals mg) (n2 : s1.heap.Ns builtinsNs mb) (n3 : ∀ x : Str, x ≠ "__name__" → mb x = bootBuiltins x) (n4 : s1.heap.NoLimit) (hg : s1.gens = #[])
    (ea : s1.heap.get? a = some { cls := .type "list", data := .seq vs.toArray }) (hi : IntsAre vs ns) (hl : ns.length ≤ sizeLine) (hr : Room k callerA)
    (F : ∀ base : Heap, K.In base → base.Ns mainGlobals mg → RunsG P w K mg base CX k fa fd [x] sp) (bd : ∀ (s : Shared) (u : Value), BindsTo s fd ⟨[u], []⟩ [(x, u)])
    (hs : ∀ H : Hp, Only H → SqL K H a (ns.map V.int) → sp [.ref a] H (fun v _ => v = .bl true) fun _ _ _ => False) (hx : ∀ H e s', CX [] H s1 (fun _ _ _ => False) e s' → False) :
    codeAny (model P w) callerA (.call (.ref fa) ⟨[.ref a], []⟩) (fun r s' => r = .ok (.ret (.bool true)) ∧ OldK s1.heap s'.heap ∧ s'.os = s1.os ∧ AllBare s'.gens) s1 := by
  obtain ⟨H, hO, hS, hok, hA⟩ := script_heap (P := P) (w := w) inK ea hi hl
  have notDict : ∀ {b : Addr} {o : Obj} {es : Array DictEntry} {ep : Nat}, s1.heap.get? b = some o → o.data = .dict es ep → H b = none := fun {b o es ep} e d => by
    cases q : H b with
    | none => rfl
    | some u =>
      obtain ⟨rfl, _⟩ := hA b (by rw [q]; exact fun z => nomatch z)
      rw [ea] at e
      cases e
      cases (show Data.seq vs.toArray _ = Data.dict es ep from d)
  have names : ∀ {b : Addr} {m : Str → Option Value}, s1.heap.Ns b m → (hidT s1.heap H).Ns b m := fun ⟨o, es, ep, e, d, r⟩ => ⟨o, es, ep, hidT_get e (notDict e d), d, r⟩
  have inB : K.In (hidT s1.heap H) := fun b o e => hidT_get (inK b o e) (by
    cases q : H b with
    | none => rfl
    | some u =>
      have z := (hA b (by rw [q]; exact fun z => nomatch z)).2
      rw [z] at e
      cases e)
  obtain ⟨mc, c1, c2⟩ := n4
  have e0 : Env0 P w K mg (hidT s1.heap H) callerA [] s1 H := ⟨rfl, ⟨inB, names n1, ⟨mb, names n2, n3⟩, ⟨mc, names c1, c2⟩⟩, fun b o e => of_hidT e, Nat.le_of_eq (hidT_size _ _), trivial, fun b hb => (nomatch hb), hok, .of_eq hg⟩
  refine codeAny_mono (F _ inB (names n1) callerA [] s1 H ⟨[.ref a], []⟩ [.ref a] [.ref a] _ _ rfl hr e0 (bd s1 (.ref a)) (.cons rfl .nil) (hs H hO hS)) fun r s2 q => ?_
  cases r with
  | error e => exact (hx H e s2 q).elim
  | ok fl =>
    cases fl with
    | ret u =>
      obtain ⟨v, H2, os, bare, un, hok2, r1, r2⟩ := q
      cases (show v = .bl true from r2)
      cases (show u = Value.bool true from r1)
      refine ⟨rfl, OldK.of_keep fun b o e => ?_, os, bare⟩
      rcases hO b with z | ⟨ob, xs, z⟩
      · exact un.keep b o e z (fun z => nomatch z) (fun z => nomatch z)
      · obtain ⟨g1, _⟩ := hok b _ z
        obtain ⟨g2, _⟩ := hok2 b _ (un.frzs b ob _ z)
        rw [e] at g1
        cases g1
        exact g2
    | next => exact False.elim q
    | brk => exact False.elim q
    | cont => exact False.elim q
/-- the head, where the law's own def is run with no repr under way -/
theorem walk_ofG {l : PySem.W.OpenLaw} {n k : Nat} {q : Program} {loose : List Str} {XP : (Str → Option Value) → Heap → Prop} {YP : World → Heap → Prop} {d : DefRec} {K : Params → PySem.W.Frag} {CX : World → CXT} {sp : World → Sp} {x : Str}
    (hn : l.most = some n) (hm : n ≤ sizeLine) (hd : d.params.defaults = []) (hr : Room k callerA) (hY : ∀ (w : World) (h : Heap), YP w h → (K w.params).In h)
    (F : ∀ (w : World) (mg : Str → Option Value) (fa : Addr) (h : Heap), (K w.params).In h → h.Ns mainGlobals mg → mg d.name = some (.ref fa) → ∃ fd : FuncData, (∀ (s : Shared) (u : Value), BindsTo s fd ⟨[u], []⟩ [(x, u)]) ∧
      ∀ base : Heap, (K w.params).In base → base.Ns mainGlobals mg → RunsG l.prog w (K w.params) mg base (CX w) k fa fd [x] (sp w))
    (hs : ∀ (w : World) (H : Hp) (a : Addr) (ns : List Int), ns.length ≤ n → Only H → SqL (K w.params) H a (ns.map V.int) → sp w [.ref a] H (fun v _ => v = .bl true) fun _ _ _ => False)
    (hx : ∀ (w : World) (H : Hp) (s : Shared) (e : Value) (s' : Shared), CX w [] H s (fun _ _ _ => False) e s' → False) : PySem.W.WalkO q loose XP YP l.row.toRowW d [] (fun f vs => PySem.call f vs) := by
  refine Att.attach_call hn hd fun w s0 s1 mg mb fa o pm cd doc a vs ns G Y e1 e2 e3 e4 ea hi hl hg => ?_
  obtain ⟨fd, bd, R⟩ := F w mg fa _ (hY w _ Y) G.T.g e4
  exact law_runs (hY w _ Y) G.T.g G.T.b G.T.builtins G.T.nolimit hg ea hi (Nat.le_trans hl hm) hr R bd (fun H hO hS => hs w H a ns hl hO hS) fun H e s' => hx w H s1 e s'
end Nb

set_option Elab.async false
set_option maxRecDepth 100000
set_option maxHeartbeats 4000000
/-! The rules of new objects, told by what stood before: every heap that keeps what was told, with the new object in it. -/
namespace Nb
open PySem PySem.Spec PyProof.Rows
open L2 hiding del del_ne del_same
def aUp (t : TA) : TA := fun σ H Q => ∃ R : List V → Hp → Prop, t σ H R ∧ ∀ vs H1, R vs H1 → Q vs H1
def eUp (t : TE) : TE := fun σ H Q => ∃ R : VK, t σ H R ∧ ∀ v H1, R v H1 → Q v H1
section
variable {X : Cx} {e : Expr} {es : List Expr} {t u : TE} {ta : TA} {pos : Pos}
theorem PE.to (h : PE X e t) (k : ∀ σ H Q, u σ H Q → t σ H Q) : PE X e u := ⟨fun pins s σ H Q I z => h.run pins s σ H Q I (k _ _ _ z)⟩
theorem pa_up (h : PA X es ta) : PA X es (aUp ta) := ⟨fun pos pins s σ H _ I ⟨R, r, k⟩ => thn (h.run pos pins s σ H R I r) fun us s1 ⟨vs, H1, I1, r1, q⟩ => ⟨vs, H1, I1, r1, k vs H1 q⟩⟩
theorem pe_up (h : PE X e t) : PE X e (eUp t) := ⟨fun pins s σ H _ I ⟨R, r, k⟩ => thn (h.run pins s σ H R I r) fun us s1 ⟨v, H1, I1, r1, q⟩ => ⟨v, H1, I1, r1, k v H1 q⟩⟩
/-- [e, ..] -/
def tLstS (ta : TA) : TE := fun σ H Q => ta σ H fun vs H1 => vs.length ≤ 100000 ∧ ∀ H2 l, Same H1 H2 → H1 l = none → H2 l = some (.lst vs) → Q (.ref l) H2
theorem line100 {n : Nat} (h : n ≤ 100000) : n ≤ sizeLine := Nat.le_trans h (by decide)
theorem pe_lstS (h : PA X es ta) : PE X (.List es pos) (tLstS ta) := PE.to (pe_lst (pa_up h)) fun σ H Q z => ⟨_, z, fun vs H1 ⟨l, q⟩ => ⟨line100 l, fun a na => q _ a (same_new na) na upd_same⟩⟩
/-- (e, ..) -/
def tTupS (ta : TA) : TE := fun σ H Q => ta σ H fun vs H1 => vs.length ≤ 100000 ∧ ∀ H2 l, Same H1 H2 → H1 l = none → H2 l = some (.tup vs) → Q (.ref l) H2
theorem pe_tupS {c} (h : PA X es ta) : PE X (.Tuple es c pos) (tTupS ta) := PE.to (pe_tup (pa_up h)) fun σ H Q z => ⟨_, z, fun vs H1 ⟨l, q⟩ => ⟨line100 l, fun a na => q _ a (same_new na) na upd_same⟩⟩
theorem OpR.to {f : Value → Value → Sem Value} {r r' : R2} (h : OpR X f r) (k : ∀ x y H Q, r' x y H Q → r x y H Q) : OpR X f r' := fun pins s σ H x y v u Q I rx ry z => h pins s σ H x y v u Q I rx ry (k _ _ _ _ z)
theorem CallR.to {f : Value} {r r' : List V → Hp → VK → Prop} (h : CallR X f r) (k : ∀ xs H Q, r' xs H Q → r xs H Q) : CallR X f r' := fun pins s σ H xs us Q I rr z => h pins s σ H xs us Q I rr (k _ _ _ z)
/-- list + list -/
def rCatS : R2 := fun x y H Q => ∃ l b xs zs, x = .ref l ∧ y = .ref b ∧ H l = some (.lst xs) ∧ H b = some (.lst zs) ∧ xs.length + zs.length ≤ 100000 ∧ ∀ H2 p, Same H H2 → H p = none → H2 p = some (.lst (xs ++ zs)) → Q (.ref p) H2
theorem op_catS : OpR X (binaryOp .Add) rCatS := OpR.to op_cat fun x y H Q ⟨l, b, xs, zs, e1, e2, h1, h2, z, q⟩ => ⟨l, b, xs, zs, e1, e2, h1, h2, line100 z, fun p np => q _ p (same_new np) np upd_same⟩
/-- list * int -/
def rRepS : R2 := fun x y H Q => ∃ (l : Addr) (k : Nat) (xs : List V), x = .ref l ∧ y = .int k ∧ H l = some (.lst xs) ∧ k ≤ 100000 ∧ xs.length * k ≤ 100000 ∧ ∀ H2 p, Same H H2 → H p = none → H2 p = some (.lst (List.replicate k xs).flatten) → Q (.ref p) H2
theorem op_repS : OpR X (binaryOp .Mult) rRepS := OpR.to op_rep fun x y H Q ⟨l, k, xs, e1, e2, h1, h2, z, q⟩ => ⟨l, k, xs, e1, e2, h1, by omega, by omega, line100 z, fun p np => q _ p (same_new np) np upd_same⟩
/-- tuple + tuple -/
def rCatT (K : PySem.W.Frag) : R2 := fun x y H Q => ∃ a b xs ys, x = .ref a ∧ y = .ref b ∧ H a = some (.tup xs) ∧ H b = some (.tup ys) ∧ xs.length + ys.length ≤ 100000 ∧ ∀ H2 p, Same H H2 → H2 p = some (.tup (xs ++ ys)) → Q (.ref p) H2
theorem op_catT' : OpR X (binaryOp .Add) (rCatT X.K) := OpR.to op_catA fun x y H Q ⟨a, b, xs, ys, e1, e2, h1, h2, z, q⟩ => ⟨a, b, xs, ys, e1, e2, SqT.of h1, SqT.of h2, line100 z,
  fun e => q _ b (Same.refl H) (by rw [e]; exact h2), fun _ e => q _ a (Same.refl H) (by rw [e, List.append_nil]; exact h1), fun _ _ p np => q _ p (same_new np) upd_same⟩
/-- tuple(xs), list(xs) -/
theorem cr_tupleS : CallR X (.type "tuple") (fun xs H Q => ∃ p ys, xs = [.ref p] ∧ (H p = some (.lst ys) ∨ H p = some (.tup ys)) ∧ ∀ H2 l, Same H H2 → H2 l = some (.tup ys) → Q (.ref l) H2) :=
  CallR.to call_tuple_of fun xs H Q ⟨p, ys, e, h, q⟩ => ⟨p, ys, e, h.elim (fun h => .inl ⟨SqL.of h, fun l nl => q _ l (same_new nl) upd_same⟩) fun h => .inr ⟨SqT.of h, q H p (Same.refl H) h⟩⟩
theorem cr_listS : CallR X (.type "list") (fun xs H Q => ∃ p ys, xs = [.ref p] ∧ (SqL X.K H p ys ∨ SqT X.K H p ys) ∧ ∀ H2 l, Same H H2 → H l = none → H2 l = some (.lst ys) → Q (.ref l) H2) :=
  CallR.to call_list_of fun xs H Q ⟨p, ys, e, h, q⟩ => ⟨p, ys, e, h, fun l nl => q _ l (same_new nl) nl upd_same⟩
end
/-! ### defs that are run where no repr is under way -/
structure DnG (P : Program) (w : World) (K : PySem.W.Frag) (mg : Str → Option Value) (base : Heap) (CX : CXT) (k : Nat) (x : Str) (ps : List Str) (sp : Sp) : Prop where
  ex : ∃ (f : Addr) (fd : FuncData), PySem.W.keepIn K (.ref f) = true ∧ Binds K fd ps [] ∧ mg x = some (.ref f) ∧ (∀ vs H Q E, sp vs H Q E → vs.length = ps.length) ∧ RunsG P w K mg base CX k f fd ps sp
section
variable {X : Cx} {CX : CXT} {k : Nat} {ps : List Str} {sp : Sp} {E : XK} {x : Str} {p pos : Pos} {e : Expr} {es : List Expr} {t : TA}
theorem pe_DG (D : DnG X.prog X.w X.K X.mg X.base CX k x ps sp) (gd : X.A.guards = some []) (hr : Room k X.A) (hg : Gl X x) (hx : Passes CX X E) (ha : PA X (e :: es) t)
    (hdb : (x == ("__debug__" : Str)) = false := by decide) (he : starEach (e :: es) X.env = (false, eval e X.env) :: starEach es X.env := by rfl) (hpl : (backTo pos (starEach es X.env)).any (·.1) = false := by rfl) : PE X (.Call (.Name x p) (e :: es) [] pos) (tCall sp [] E t) := by
  obtain ⟨f, fd, kp, b, g, len, G⟩ := D.ex
  refine ⟨fun pins s σ H Q I h => wpAny_Call_Name_kw (ld_glob I hg g (PySem.W.callWith_K (h₀ := X.base) I.ok.mod.kin kp (thn (ha.run pos pins s σ H _ I h) fun us s1 ⟨vs, H1, I1, r, q⟩ => ⟨I1.kIn, ?_⟩) he hpl) hdb)⟩
  have q : sp vs H1 Q E := by
    have q' : sp (vs ++ []) H1 Q E := q
    rwa [List.append_nil] at q'
  have hl : (us ++ []).length = ps.length := by rw [List.append_nil, ← Paired.length r]; exact len _ _ _ _ q
  refine wpAny_call (codeAny_mono (G X.A X.stack s1 H1 ⟨us, []⟩ us vs Q E gd hr I1.env0 (by simpa using b s1 us I1.kIn hl) r q) fun r s' hq => ?_)
  cases r with
  | error e => exact hx pins σ H1 s1 e s' I1 hq
  | ok fl =>
    cases fl with
    | ret u => exact I1.after hq
    | next => exact False.elim hq
    | brk => exact False.elim hq
    | cont => exact False.elim hq
end
/-! ### repr of data in which empty dicts may stand -/
mutual
inductive Tz (H : Hp) : V → PyData → Prop
  | non : Tz H .non .none
  | bl (b) : Tz H (.bl b) (.bool b)
  | int (i) : Tz H (.int i) (.int i)
  | str (z) : Tz H (.str z) (.str z)
  | lst {a xs ds} : H a = some (.lst xs) → Tzs H xs ds → Tz H (.ref a) (.list ds)
  | tup {a xs ds} : H a = some (.tup xs) → Tzs H xs ds → Tz H (.ref a) (.tuple ds)
  | dct {a} : H a = some (.dK []) → Tz H (.ref a) (.dict [])
inductive Tzs (H : Hp) : List V → List PyData → Prop
  | nil : Tzs H [] []
  | cons {x d xs ds} : Tz H x d → Tzs H xs ds → Tzs H (x :: xs) (d :: ds)
end
mutual
theorem tz_same {H H' : Hp} (s : Same H H') : ∀ {x : V} {d : PyData}, Tz H x d → Tz H' x d
  | _, _, .non => .non
  | _, _, .bl b => .bl b
  | _, _, .int i => .int i
  | _, _, .str z => .str z
  | _, _, .lst e h => .lst (s _ _ e) (tzs_same s h)
  | _, _, .tup e h => .tup (s _ _ e) (tzs_same s h)
  | _, _, .dct e => .dct (s _ _ e)
theorem tzs_same {H H' : Hp} (s : Same H H') : ∀ {xs : List V} {ds : List PyData}, Tzs H xs ds → Tzs H' xs ds
  | _, _, .nil => .nil
  | _, _, .cons h k => .cons (tz_same s h) (tzs_same s k)
end
mutual
theorem tz_reads {X : Cx} {pins : List (Addr × Obj)} {σ : L2.St} {H : Hp} {s : Shared} (I : Inv X pins σ H s) : ∀ {x : V} {d : PyData} {u : Value}, Tz H x d → RelV x u → ∃ as, Reads s.heap u d as ∧ ∀ a ∈ as, H a ≠ none
  | _, _, _, .non, r => by cases r; exact ⟨_, .none, fun _ h => nomatch h⟩
  | _, _, _, .bl b, r => by cases r; exact ⟨_, .bool b, fun _ h => nomatch h⟩
  | _, _, _, .int i, r => by obtain ⟨t, rfl⟩ := r; exact ⟨_, .int i t, fun _ h => nomatch h⟩
  | _, _, _, .str z, r => by obtain ⟨t, rfl⟩ := r; exact ⟨_, .str z t, fun _ h => nomatch h⟩
  | _, _, _, .lst (a := a) e h, r => by
    cases r
    obtain ⟨its, rv, ⟨o, n, ho, hc, _, hd⟩, _⟩ := I.list (SqL.of e)
    obtain ⟨as, hr, al⟩ := tzs_reads I h rv
    refine ⟨_, .list ho hc hd hr, fun b hb => ?_⟩
    rcases List.mem_cons.mp hb with z | z
    · rw [z, e]
      exact fun q => nomatch q
    · exact al b z
  | _, _, _, .tup e h, r => by
    cases r
    obtain ⟨its, rv, ⟨o, ho, hc, n, hd⟩, _⟩ := I.tuple (SqT.of e)
    obtain ⟨as, hr, al⟩ := tzs_reads I h rv
    exact ⟨_, .tuple ho hc hd hr, al⟩
  | _, _, _, .dct (a := a) e, r => by
    cases r
    have ho : ObjOk X.prog X.w H s.heap a (.dK []) := I.hok a _ e
    obtain ⟨_, nm, vs, kv, o, es, ep, e1, e2, e3, _, e5, _⟩ := ho
    cases kv
    have e6 : es.toList = [] := by
      cases hz : es.toList with
      | nil => rfl
      | cons z zs =>
        rw [hz] at e5
        cases e5
    refine ⟨_, .dict (as := []) (bs := []) e1 e2.1 e3 (by rw [e6]; exact .nil) (by rw [e6]; exact .nil), fun b hb => ?_⟩
    have hb : b = a := by simpa using hb
    rw [hb, e]
    exact fun q => nomatch q
theorem tzs_reads {X : Cx} {pins : List (Addr × Obj)} {σ : L2.St} {H : Hp} {s : Shared} (I : Inv X pins σ H s) : ∀ {xs : List V} {ds : List PyData} {us : List Value}, Tzs H xs ds → Vals xs us → ∃ as, ReadsAll s.heap us ds as ∧ ∀ a ∈ as, H a ≠ none
  | _, _, _, .nil, r => by cases r; exact ⟨_, .nil, fun _ h => nomatch h⟩
  | _, _, _, .cons h k, r => by
    cases r with
    | cons r1 r2 =>
      obtain ⟨as, q1, a1⟩ := tz_reads I h r1
      obtain ⟨bs, q2, a2⟩ := tzs_reads I k r2
      exact ⟨_, .cons q1 q2, fun a ha => (List.mem_append.mp ha).elim (a1 a) (a2 a)⟩
end
/-- the module's table of modules is a written object -/
def SysIn (K : PySem.W.Frag) : Prop := (K.lookup sysModules).isSome = true
theorem cr_reprZ {X : Cx} (sy : SysIn X.K) (g : X.A.guards = some []) (u : X.A.units + 100 < cLine) : CallR X (.builtin "repr") (fun xs H Q => ∃ (x : V) (d : PyData), xs = [x] ∧ Tz H x d ∧ d.showable = true ∧ d.depth ≤ 60 ∧ d.shown.length ≤ sizeLine ∧ Q (.str d.shown) H) := by
  intro pins s σ H xs us Q I r h
  obtain ⟨x, d, rfl, hd, hs, hn, hz, q⟩ := h
  obtain ⟨v, rfl, rv⟩ := vals1 r
  obtain ⟨as, rd, al⟩ := tz_reads I hd rv
  obtain ⟨so, hso⟩ := Option.isSome_iff_exists.mp sy
  have nsy : sysModules ∉ as := fun hm => al _ hm (I.bs _ _ (I.ok.mod.kin _ _ hso)).2
  have byRef : ∀ a : Addr, v = .ref a → wpAny (model X.prog X.w) X.A (call (.builtin "repr") [v]) (EP X pins σ Q) X.xe s := fun a e => by
    subst e
    exact repr_of_reads' rd hs (fun _ => nsy) g (by omega) (fun _ _ e => e) (fun h' t tk hk => ⟨.str d.shown, H, I.kept (t' := tk) hk, ⟨_, rfl⟩, q⟩) hz
  cases hd with
  | non =>
    cases (show v = Value.none from rv)
    exact PySem.P.repr_of_none ⟨.str _, H, I.tok _, ⟨_, rfl⟩, q⟩
  | bl b =>
    cases (show v = Value.bool b from rv)
    exact PySem.P.repr_of_bool ⟨.str _, H, I.tok _, ⟨_, rfl⟩, q⟩
  | int i =>
    obtain ⟨t, rfl⟩ := rv
    exact PySem.P.repr_of_int (of_decide_eq_true hs) ⟨.str _, H, I.tok _, ⟨_, rfl⟩, q⟩
  | str z =>
    obtain ⟨t, rfl⟩ := rv
    exact PySem.P.repr_of_str ⟨.str _, H, I.tok _, ⟨_, rfl⟩, q⟩ hz
  | lst e ts => exact byRef _ rv
  | tup e ts => exact byRef _ rv
  | dct e => exact byRef _ rv
end Nb
namespace Nb
open PySem PySem.Spec PyProof.Rows
open L2 hiding del del_ne del_same
theorem eqv_bls : ∀ xs ys : List Bool, PyData.eqvAll (xs.map PyData.bool) (ys.map PyData.bool) = decide (xs = ys)
  | [], [] => rfl
  | [], y :: ys => rfl
  | x :: xs, [] => rfl
  | x :: xs, y :: ys => by
    have ih := eqv_bls xs ys
    simp only [List.map_cons, PyData.eqvAll, ih]
    cases x <;> cases y <;> simp [PyData.eqv]
theorem dp_bls {K : PySem.W.Frag} {H : Hp} : ∀ bs : List Bool, DpAll K H (bs.map V.bl) (bs.map PyData.bool)
  | [] => .nil
  | b :: bs => .cons (.bl b) (dp_bls bs)
theorem fine_bls (bs : List Bool) : Fine 1 (.list (bs.map PyData.bool)) := fine_list fun d hd => by
  obtain ⟨b, _, rfl⟩ := List.mem_map.mp hd
  exact fine_bl b
/-- lists of bools compared -/
def rBls (k : Bool → Bool) : R2 := fun x y H Q => ∃ (a b : Addr) (xs ys : List Bool), x = .ref a ∧ y = .ref b ∧ H a = some (.lst (xs.map V.bl)) ∧ H b = some (.lst (ys.map V.bl)) ∧ Q (.bl (k (decide (xs = ys)))) H
section
variable {X : Cx}
theorem op_eqBls (hu : X.A.units + 64 < cLine) : OpR X (compareOp .Eq) (rBls id) := OpR.to (op_eqD hu) fun x y H Q h => by
  obtain ⟨a, b, xs, ys, rfl, rfl, h1, h2, q⟩ := h
  refine ⟨.list (xs.map PyData.bool), .list (ys.map PyData.bool), .lst (SqL.of h1) (dp_bls xs), .lst (SqL.of h2) (dp_bls ys), (fine_bls xs).shaped (by decide), (fine_bls ys).shaped (by decide), ?_⟩
  have e : PyData.eqv (.list (xs.map PyData.bool)) (.list (ys.map PyData.bool)) = decide (xs = ys) := by rw [← eqv_bls]; simp [PyData.eqv]
  rw [e]
  exact q
theorem op_neBls (hu : X.A.units + 64 < cLine) : OpR X (compareOp .NotEq) (rBls not) := OpR.to (op_neD hu) fun x y H Q h => by
  obtain ⟨a, b, xs, ys, rfl, rfl, h1, h2, q⟩ := h
  refine ⟨.list (xs.map PyData.bool), .list (ys.map PyData.bool), .lst (SqL.of h1) (dp_bls xs), .lst (SqL.of h2) (dp_bls ys), (fine_bls xs).shaped (by decide), (fine_bls ys).shaped (by decide), ?_⟩
  have e : PyData.eqv (.list (xs.map PyData.bool)) (.list (ys.map PyData.bool)) = decide (xs = ys) := by rw [← eqv_bls]; simp [PyData.eqv]
  rw [e]
  exact q
end
end Nb
namespace Nb
open PySem PySem.Spec PyProof.Rows
open L2 hiding del del_ne del_same
theorem eqv_ints : ∀ xs ys : List Int, PyData.eqvAll (xs.map PyData.int) (ys.map PyData.int) = decide (xs = ys)
  | [], [] => rfl
  | [], y :: ys => rfl
  | x :: xs, [] => rfl
  | x :: xs, y :: ys => by
    simp only [List.map_cons, PyData.eqvAll, eqv_ints xs ys, PyData.eqv]
    rw [Bool.eq_iff_iff]
    simp
/-- lists of ints compared -/
def rInts (k : Bool → Bool) : R2 := fun x y H Q => ∃ (a b : Addr) (xs ys : List Int), x = .ref a ∧ y = .ref b ∧ H a = some (.lst (xs.map V.int)) ∧ H b = some (.lst (ys.map V.int)) ∧ Q (.bl (k (decide (xs = ys)))) H
section
variable {X : Cx}
theorem op_eqInts (hu : X.A.units + 64 < cLine) : OpR X (compareOp .Eq) (rInts id) := OpR.to (op_eqD hu) fun x y H Q h => by
  obtain ⟨a, b, xs, ys, rfl, rfl, h1, h2, q⟩ := h
  refine ⟨.list (xs.map PyData.int), .list (ys.map PyData.int), .lst (SqL.of h1) (dp_ints xs), .lst (SqL.of h2) (dp_ints ys), (fine_ints xs).shaped (by decide), (fine_ints ys).shaped (by decide), ?_⟩
  have e : PyData.eqv (.list (xs.map PyData.int)) (.list (ys.map PyData.int)) = decide (xs = ys) := by rw [← eqv_ints]; simp [PyData.eqv]
  rw [e]
  exact q
theorem op_neInts (hu : X.A.units + 64 < cLine) : OpR X (compareOp .NotEq) (rInts not) := OpR.to (op_neD hu) fun x y H Q h => by
  obtain ⟨a, b, xs, ys, rfl, rfl, h1, h2, q⟩ := h
  refine ⟨.list (xs.map PyData.int), .list (ys.map PyData.int), .lst (SqL.of h1) (dp_ints xs), .lst (SqL.of h2) (dp_ints ys), (fine_ints xs).shaped (by decide), (fine_ints ys).shaped (by decide), ?_⟩
  have e : PyData.eqv (.list (xs.map PyData.int)) (.list (ys.map PyData.int)) = decide (xs = ys) := by rw [← eqv_ints]; simp [PyData.eqv]
  rw [e]
  exact q
/-- {} -/
theorem pe_dnewS {pos : Pos} : PE X (.Dict [] [] pos) (fun _ H Q => ∀ H2 d, Same H H2 → H d = none → H2 d = some (.dK []) → Q (.ref d) H2) := PE.to pe_dnewK fun σ H Q z d hd => z _ d (same_new hd) hd upd_same
end
theorem tzs_rep {H : Hp} {x : V} {d : PyData} (h : Tz H x d) : ∀ n, Tzs H (List.replicate n x) (List.replicate n d)
  | 0 => .nil
  | n + 1 => .cons h (tzs_rep h n)
/-- what stands in a heap beside the source -/
theorem del_keep {H : Hp} {p a : Addr} {o : HO} (e : H a = some o) (n : a ≠ p) : del H p a = some o := by rw [del_ne n]; exact e
theorem same_upd {F H : Hp} {p : Addr} (s : Same F H) (h : F p = none) : Same F (del H p) := same_del s h
theorem del_mono {H H' : Hp} {p : Addr} (s : Same H H') : Same (del H p) (del H' p) := same_del (del_same.trans s) del_at
theorem src_away {H : Hp} {p l : Addr} {b : Nat} (S : Src H p b) (h : H l = none) : l ≠ p := fun z => by
  obtain ⟨c, n, r, e, _⟩ := S
  rw [z, e] at h
  cases h
end Nb
namespace Nb
open PySem L2
theorem un100 {k : Nat} {A : Around} (hr : Room k A) : A.units + 100 < cLine := by
  have := hr.un
  omega
end Nb
namespace Nb
open PySem L2
/-- a law's own promise -/
def spLaw0 (K : PySem.W.Frag) : Sp := fun vs H Q _ => ∃ (a : Addr) (ns : List Int), vs = [.ref a] ∧ SqL K H a (ns.map V.int) ∧ ns.length ≤ 63 ∧ ∀ H', Q (.bl true) H'
end Nb

set_option Elab.async false
set_option linter.all false
set_option maxRecDepth 100000
set_option maxHeartbeats 4000000
/-! Comprehensions that change nothing that was told: what they give, item by item. -/
namespace Nb
open PySem
open L2 hiding del del_ne del_same
/-- item by item -/
inductive F2 {α β : Type} (R : α → β → Prop) : List α → List β → Prop
  | nil : F2 R [] []
  | cons {x y xs ys} : R x y → F2 R xs ys → F2 R (x :: xs) (y :: ys)
theorem f2_snoc {α β : Type} {R : α → β → Prop} : ∀ {xs : List α} {ys : List β} {x : α} {y : β}, F2 R xs ys → R x y → F2 R (xs ++ [x]) (ys ++ [y])
  | _, _, _, _, .nil, h => .cons h .nil
  | _, _, _, _, .cons a b, h => .cons a (f2_snoc b h)
theorem f2_imp {α β : Type} {R S : α → β → Prop} (k : ∀ a b, R a b → S a b) : ∀ {xs : List α} {ys : List β}, F2 R xs ys → F2 S xs ys
  | _, _, .nil => .nil
  | _, _, .cons a b => .cons (k _ _ a) (f2_imp k b)
theorem f2_len {α β : Type} {R : α → β → Prop} : ∀ {xs : List α} {ys : List β}, F2 R xs ys → xs.length = ys.length
  | _, _, .nil => rfl
  | _, _, .cons _ b => congrArg (· + 1) (f2_len b)
theorem f2_map {α β : Type} {f : α → β} : ∀ {xs : List α} {ys : List β}, F2 (fun x y => y = f x) xs ys → ys = xs.map f
  | _, _, .nil => rfl
  | _, _, .cons a b => by rw [a, f2_map b]; rfl
theorem f2_get {α β : Type} {R : α → β → Prop} : ∀ {xs : List α} {ys : List β} {i : Nat} {y : β}, F2 R xs ys → ys[i]? = some y → ∃ x, xs[i]? = some x ∧ R x y
  | _, _, 0, _, .cons (x := x) a _, h => ⟨x, rfl, by cases h; exact a⟩
  | _, _, i + 1, _, .cons _ b, h => f2_get (i := i) b h
theorem f2_getl {α β : Type} {R : α → β → Prop} : ∀ {xs : List α} {ys : List β} {i : Nat} {x : α}, F2 R xs ys → xs[i]? = some x → ∃ y, ys[i]? = some y ∧ R x y
  | _, _, 0, _, .cons (y := y) a _, h => ⟨y, rfl, by cases h; exact a⟩
  | _, _, i + 1, _, .cons _ b, h => f2_getl (i := i) b h
section
variable {J : It} {n : Nat} {G : Hp → Prop} {Y : Nat → Hp → V → Hp → Prop} {g : TG} {tt : TT} {te : TE} {vs : List Nat} {σ : L2.St} {H1 : Hp} {D : Addr} {Qd : Hp → Prop}
/-- what a comprehension's rule asks for behind the new list -/
def LcGoal (J : It) (g : TG) (tt : TT) (te : TE) (vs : List Nat) (σ : L2.St) (H1 : Hp) (D : Addr) (Qd : Hp → Prop) : Prop :=
    ∃ W : Nat → Nat → Hp → Prop, (∃ m, W 0 m (upd H1 D (.lst []))) ∧ ∀ i m H, W i m H →
      (J.stop i H ∧ Qd H) ∨ (J.go i H ∧ ∃ Nx : Hp → Prop, (∀ H', Nx H' → ∃ m', m' < m ∧ W (i + 1) m' H') ∧ ∀ x H', J.yld i H x H' → g x (wipe σ vs) H' fun σ2 H2 => wipe σ2 vs = wipe σ vs ∧ tt σ2 H2 fun b H3 =>
        if b = true then te σ2 H3 fun y H4 => ∃ acc, H4 D = some (.lst acc) ∧ acc.length < sizeLine ∧ Nx (upd H4 D (.lst (acc ++ [y]))) else Nx H3)
/-- the items are told by R, under which nothing that is told is lost -/
theorem lcR (w : Walk J n G Y) (p : Nat → Bool) (R : Nat → V → Hp → Prop) (hR : ∀ i y H H', Same H H' → R i y H → R i y H') (hn : n ≤ 100000) (hD : H1 D = none) (hG : ∀ H, Same H1 H → G H)
    (hs : ∀ i x H H' (Nx : VK) (Nf : Hp → Prop), i < n → Same H1 H → H D ≠ none → Y i H x H' → (p i = true → ∀ y H4, Same H H4 → R i y (del H4 D) → Nx y H4) → (p i = false → ∀ H3, Same H H3 → Nf H3) →
      g x (wipe σ vs) H' fun σ2 H2 => wipe σ2 vs = wipe σ vs ∧ tt σ2 H2 fun b H3 => if b = true then te σ2 H3 Nx else Nf H3)
    (hd : ∀ H ys, Same H1 H → H D = some (.lst ys) → F2 (fun i y => R i y H) ((List.range n).filter p) ys → Qd H) : LcGoal J g tt te vs σ H1 D Qd := by
  refine lc_it w (fun i H => ∃ ys, Same H1 H ∧ H D = some (.lst ys) ∧ F2 (fun j y => R j y (del H D)) ((List.range i).filter p) ys)
    ⟨[], same_new hD, upd_same, .nil⟩ (fun i H _ ⟨_, s, _⟩ => hG H s) (fun i x H H' hi ⟨ys, s, e, f⟩ y => ?_) (fun H ⟨ys, s, e, f⟩ => hd H ys s e (f2_imp (fun a b k => hR _ _ _ _ del_same k) f))
  have hl : ys.length ≤ i := by
    rw [← f2_len f]
    exact Nat.le_trans (List.length_filter_le _ _) (by rw [List.length_range]; exact Nat.le_refl _)
  have up : ∀ {H4 : Hp}, Same H H4 → Same (del H D) (del H4 D) := fun s4 => same_del (del_same.trans s4) del_at
  have un : ∀ {H4 : Hp} {o : HO}, del (upd H4 D o) D = del H4 D := fun {H4 o} => by
    funext b
    by_cases h : b = D
    · rw [h, del_at, del_at]
    · rw [del_ne h, del_ne h, upd_ne h]
  refine hs i x H H' _ _ hi s (by rw [e]; exact fun z => nomatch z) y (fun hp v H4 s4 r => ⟨ys, s4 _ _ e, ?_, ys ++ [v], same_at (s.trans s4) hD, upd_same, ?_⟩) (fun hp H3 s3 => ⟨ys, s.trans s3, s3 _ _ e, ?_⟩)
  · exact Nat.lt_of_le_of_lt hl (Nat.lt_of_lt_of_le hi (line100 hn))
  · rw [List.range_succ, List.filter_append, un]
    have e1 : [i].filter p = [i] := by simp [hp]
    rw [e1]
    exact f2_snoc (f2_imp (fun a b k => hR _ _ _ _ (up s4) k) f) r
  · rw [List.range_succ, List.filter_append]
    have e1 : [i].filter p = [] := by simp [hp]
    rw [e1, List.append_nil]
    exact f2_imp (fun a b k => hR _ _ _ _ (up s3) k) f
/-- the items are values that stand in no heap, or stood before -/
theorem lcS (w : Walk J n G Y) (p : Nat → Bool) (f : Nat → V) (hn : n ≤ 100000) (hD : H1 D = none) (hG : ∀ H, Same H1 H → G H)
    (hs : ∀ i x H H' (Nx : VK) (Nf : Hp → Prop), i < n → Same H1 H → Y i H x H' → (p i = true → ∀ H4, Same H H4 → Nx (f i) H4) → (p i = false → ∀ H3, Same H H3 → Nf H3) →
      g x (wipe σ vs) H' fun σ2 H2 => wipe σ2 vs = wipe σ vs ∧ tt σ2 H2 fun b H3 => if b = true then te σ2 H3 Nx else Nf H3)
    (hd : ∀ H, Same H1 H → H D = some (.lst (((List.range n).filter p).map f)) → Qd H) : LcGoal J g tt te vs σ H1 D Qd :=
  lcR w p (fun i y _ => y = f i) (fun _ _ _ _ _ z => z) hn hD hG (fun i x H H' Nx Nf hi s _ y k1 k2 => hs i x H H' Nx Nf hi s y (fun hp H4 s4 => k1 hp _ H4 s4 rfl) k2) fun H ys s e f2 => hd H s (by rw [e, f2_map f2])
/-- without an if -/
theorem lcM (w : Walk J n G Y) (f : Nat → V) (hn : n ≤ 100000) (hD : H1 D = none) (hG : ∀ H, Same H1 H → G H)
    (hs : ∀ i x H H' (Nx : VK), i < n → Same H1 H → Y i H x H' → (∀ H4, Same H H4 → Nx (f i) H4) →
      g x (wipe σ vs) H' fun σ2 H2 => wipe σ2 vs = wipe σ vs ∧ te σ2 H2 Nx)
    (hd : ∀ H, Same H1 H → H D = some (.lst ((List.range n).map f)) → Qd H) : LcGoal J g tYes te vs σ H1 D Qd :=
  lcS w (fun _ => true) f hn hD hG (fun i x H H' Nx Nf hi s y k1 k2 => hs i x H H' Nx hi s y (k1 rfl)) fun H s e => hd H s (by rw [e, List.filter_eq_self.mpr fun _ _ => rfl])
end
end Nb
namespace Nb
open PySem
open L2 hiding del del_ne del_same
section
variable {J : It} {n : Nat} {G : Hp → Prop} {Y : Nat → Hp → V → Hp → Prop} {g : TG} {tt : TT} {tk tv : TE} {vs : List Nat} {σ : L2.St} {H1 : Hp} {D : Addr} {Qd : Hp → Prop}
/-- a dict comprehension without an if, whose keys are all different -/
theorem dcM (w : Walk J n G Y) (key : Nat → Key) (val : Nat → V) (diff : ∀ i j, i < j → j < n → key i ≠ key j) (hn : n ≤ 100000) (hD : H1 D = none) (hG : ∀ H, Same H1 H → G H)
    (hs : ∀ i x H H' (N : V → V → Hp → Prop), i < n → Same H1 H → Y i H x H' → (∀ H5, Same H H5 → N (kV (key i)) (val i) H5) → g x (wipe σ vs) H' fun σ2 H2 => wipe σ2 vs = wipe σ vs ∧ tk σ2 H2 fun y H4 => tv σ2 H4 fun z H5 => N y z H5)
    (hd : ∀ H, Same H1 H → H D = some (.dK ((List.range n).map fun i => (key i, val i))) → Qd H) :
    ∃ W : Nat → Nat → Hp → Prop, (∃ m, W 0 m (upd H1 D (.dK []))) ∧ ∀ i m H, W i m H →
      (J.stop i H ∧ Qd H) ∨ (J.go i H ∧ ∃ Nx : Hp → Prop, (∀ H', Nx H' → ∃ m', m' < m ∧ W (i + 1) m' H') ∧ ∀ x H', J.yld i H x H' → g x (wipe σ vs) H' fun σ2 H2 => wipe σ2 vs = wipe σ vs ∧ tYes σ2 H2 fun b H3 =>
        if b = true then tk σ2 H3 fun y H4 => tv σ2 H4 fun z H5 => ∃ kvs k, y = kV k ∧ H5 D = some (.dK kvs) ∧ kvs.length < sizeLine ∧ Nx (upd H5 D (.dK (putK kvs k z))) else Nx H3) := by
  have inv : ∀ i H, (Same H1 H ∧ H D = some (.dK ((List.range i).map fun i => (key i, val i)))) → Same H1 H := fun _ _ h => h.1
  refine ⟨fun i m H => m + i = n ∧ Same H1 H ∧ H D = some (.dK ((List.range i).map fun i => (key i, val i))), ⟨n, rfl, same_new hD, upd_same⟩, fun i m H ⟨em, s, e⟩ => ?_⟩
  by_cases hlt : i < n
  · refine .inr ⟨w.goes i H hlt (hG H s), fun H' => Same H1 H' ∧ H' D = some (.dK ((List.range (i + 1)).map fun i => (key i, val i))), fun H' p' => ⟨m - 1, by omega, by omega, p'⟩, fun x H' y => ?_⟩
    have z := hs i x H H' (fun y z H5 => ∃ kvs k, y = kV k ∧ H5 D = some (.dK kvs) ∧ kvs.length < sizeLine ∧ Same H1 (upd H5 D (.dK (putK kvs k z))) ∧ (upd H5 D (.dK (putK kvs k z))) D = some (.dK ((List.range (i + 1)).map fun i => (key i, val i)))) hlt s (w.yields i H x H' hlt (hG H s) y)
      (fun H5 s5 => ⟨_, key i, rfl, s5 _ _ e, ?_, same_at (s.trans s5) hD, ?_⟩)
    · exact z
    · rw [List.length_map, List.length_range]
      exact Nat.lt_of_lt_of_le hlt (line100 hn)
    · rw [upd_same]
      have v : valV ((List.range i).map fun i => (key i, val i)) (key i) = none := by
        unfold valV
        rw [Option.map_eq_none_iff, List.find?_eq_none]
        intro p hp
        obtain ⟨j, hj, rfl⟩ := List.mem_map.mp hp
        have := diff j i (List.mem_range.mp hj) hlt
        simpa using this
      rw [putK_new _ v, List.range_succ, List.map_append]
      rfl
  · have e2 : i = n := by omega
    subst e2
    exact .inl ⟨w.stops H (hG H s), hd H s e⟩
end
theorem range_getD {α : Type} (d : α) : ∀ ps : List α, (List.range ps.length).map (fun i => ps.getD i d) = ps := fun ps => by
  apply List.ext_getElem?
  intro i
  rw [List.getElem?_map]
  by_cases h : i < ps.length
  · rw [List.getElem?_range h]
    simp [h]
  · rw [List.getElem?_eq_none_iff.mpr (by rw [List.length_range]; omega), List.getElem?_eq_none_iff.mpr (by omega)]
    rfl
theorem filter_range {α : Type} (d : α) (q : α → Bool) (ps : List α) : ((List.range ps.length).filter fun i => q (ps.getD i d)).length = (ps.filter q).length := by
  conv => rhs; rw [← range_getD d ps]
  rw [List.filter_map, List.length_map]
  rfl
def tUp (t : TT) : TT := fun σ H Q => ∃ R : Bool → Hp → Prop, t σ H R ∧ ∀ b H, R b H → Q b H
theorem pt_up {X : Cx} {e : Expr} {t : TT} (h : PT X e t) : PT X e (tUp t) := ⟨fun pins s σ H _ I ⟨R, r, k⟩ => thn (h.run pins s σ H R I r) fun b s1 ⟨H1, I1, q⟩ => ⟨H1, I1, k b H1 q⟩⟩
theorem tUp_mono {t : TT} : ∀ σ H Q Q', (∀ b H1, Q b H1 → Q' b H1) → tUp t σ H Q → tUp t σ H Q' := fun _ _ _ _ k ⟨R, r, z⟩ => ⟨R, r, fun b H q => k b H (z b H q)⟩
end Nb

set_option Elab.async false
set_option maxRecDepth 100000
set_option maxHeartbeats 4000000
/-! Names and rows of names, as values. -/
namespace Nb
open PySem L2
def lowA : List Nat := ("a" : Str).cps.toList
def lowZ : List Nat := ("z" : Str).cps.toList
def letterOk (c : Nat) : Bool := !decide ([c] < lowA) && !decide (lowZ < [c])
def isNm (z : Str) : Bool := decide (1 ≤ (z.length : Int)) && decide ((z.length : Int) ≤ 8) && z.cps.toList.all letterOk
def nameV : V → Bool
  | .str z => isNm z
  | _ => false
/-- what is known of a value that may be a name -/
def Known (K : PySem.W.Frag) (H : Hp) (x : V) : Prop := (∃ z, x = .str z ∧ z.length ≤ 1000 ∧ PyData.strOk z = true) ∨ (∀ z, x ≠ .str z) ∧ ∃ T, TyX K H x (.type T) ∧ kitB T "str" = some false
def Item (K : PySem.W.Frag) (H : Hp) (x : V) : Prop := Known K H x ∧ ∃ d, Dp K H x d ∧ Fine 8 d
def tupOf (H : Hp) : V → Option (List V)
  | .ref a => match H a with
    | some (.tup xs) => some xs
    | some (.frz _ (.tup xs)) => some xs
    | _ => none
  | _ => none
def Thing (K : PySem.W.Frag) (H : Hp) (x : V) : Prop :=
  (∃ a xs, x = .ref a ∧ Rd H a (.tup xs) ∧ xs.length ≤ 1000 ∧ ∀ y ∈ xs, Item K H y) ∨ (∀ H', Same H H' → tupOf H' x = none) ∧ ∃ T, TyX K H x (.type T) ∧ kitB T "tuple" = some false
def strsOf (xs : List V) : List Str := xs.filterMap fun | .str z => some z | _ => none
def diffV (xs : List V) : Bool := xs.all nameV && decide (((seen (strsOf xs)).length : Int) = xs.length)
def namesV (H : Hp) (x : V) : Bool := match tupOf H x with
  | some xs => xs.all nameV
  | none => false
def diffOf (H : Hp) (x : V) : Bool := match tupOf H x with
  | some xs => diffV xs
  | none => false
def rowV (H : Hp) (x : V) : Bool := match tupOf H x with
  | some xs => diffV xs && decide ((xs.length : Int) ≤ 4)
  | none => false
theorem tupOf_at {H : Hp} {a : Addr} {xs : List V} (h : Rd H a (.tup xs)) : tupOf H (.ref a) = some xs := by
  show (match H a with | some (.tup xs) => some xs | some (.frz _ (.tup xs)) => some xs | _ => none) = some xs
  rcases h with h | ⟨o, h⟩
  · rw [h]
  · rw [h]
theorem rd_same {H H' : Hp} (s : Same H H') {a : Addr} {u : HO} (h : Rd H a u) : Rd H' a u := by
  rcases h with h | ⟨o, h⟩
  · exact .inl (s _ _ h)
  · exact .inr ⟨o, s _ _ h⟩
theorem rd_ty {K : PySem.W.Frag} {H : Hp} {a : Addr} {xs : List V} (h : Rd H a (.tup xs)) : TyX K H (.ref a) (.type "tuple") := by
  rcases h with h | ⟨o, h⟩
  · exact .base (.tup h)
  · exact .fTuple h
theorem strs_map : ∀ {xs : List V}, xs.all nameV = true → xs = (strsOf xs).map V.str
  | [], _ => rfl
  | x :: xs, h => by
    rw [List.all_cons, Bool.and_eq_true] at h
    have ih := strs_map h.2
    cases x with
    | str z =>
      show V.str z :: xs = V.str z :: (strsOf xs).map V.str
      rw [← ih]
    | _ => exact absurd h.1 (by simp [nameV])
theorem tyx_same {K : PySem.W.Frag} {H H' : Hp} (s : Same H H') {x : V} {t : Value} (h : TyX K H x t) : TyX K H' x t := by
  cases h with
  | base b =>
    refine .base ?_
    cases b with
    | non => exact .non
    | bl x => exact .bl x
    | int i => exact .int i
    | str x => exact .str x
    | flt x => exact .flt x
    | lst e => exact .lst (s _ _ e)
    | frz e => exact .frz (s _ _ e)
    | tup e => exact .tup (s _ _ e)
    | dK e => exact .dK (s _ _ e)
    | dT e => exact .dT (s _ _ e)
    | ins e cl ha hn htk hm => exact .ins (s _ _ e) cl ha hn htk hm
  | byt b => exact .byt b
  | set e => exact .set (s _ _ e)
  | kList e c => exact .kList e c
  | kTuple e c => exact .kTuple e c
  | kDict e c => exact .kDict e c
  | fTuple e => exact .fTuple (s _ _ e)
  | fDict e => exact .fDict (s _ _ e)
theorem known_same {K : PySem.W.Frag} {H H' : Hp} (s : Same H H') {x : V} (h : Known K H x) : Known K H' x := by
  rcases h with h | ⟨h1, T, h2, h3⟩
  · exact .inl h
  · exact .inr ⟨h1, T, tyx_same s h2, h3⟩
theorem item_same {K : PySem.W.Frag} {H H' : Hp} (s : Same H H') {x : V} (h : Item K H x) : Item K H' x :=
  ⟨known_same s h.1, let ⟨d, h1, h2⟩ := h.2; ⟨d, dp_same s d x h1, h2⟩⟩
theorem thing_same {K : PySem.W.Frag} {H H' : Hp} (s : Same H H') {x : V} (h : Thing K H x) : Thing K H' x := by
  rcases h with ⟨a, xs, h1, h2, h3, h4⟩ | ⟨h1, T, h2, h3⟩
  · exact .inl ⟨a, xs, h1, rd_same s h2, h3, fun y hy => item_same s (h4 y hy)⟩
  · exact .inr ⟨fun H2 s2 => h1 H2 (s.trans s2), T, tyx_same s h2, h3⟩
theorem thing_tup {K : PySem.W.Frag} {H H' : Hp} (s : Same H H') {x : V} (h : Thing K H x) : tupOf H' x = tupOf H x := by
  rcases h with ⟨a, xs, rfl, h2, h3, h4⟩ | ⟨h1, _⟩
  · rw [tupOf_at h2, tupOf_at (rd_same s h2)]
  · rw [h1 _ s, h1 _ (Same.refl H)]
theorem thing_row {K : PySem.W.Frag} {H H' : Hp} (s : Same H H') {x : V} (h : Thing K H x) : rowV H' x = rowV H x := by
  unfold rowV
  rw [thing_tup s h]
/-- a value that is no object -/
theorem thing_flat {K : PySem.W.Frag} {H : Hp} {x : V} (h : ∀ a, x ≠ .ref a) {T : String} (t : TyX K H x (.type T)) (k : kitB T "tuple" = some false) : Thing K H x := by
  refine .inr ⟨fun H' _ => ?_, T, t, k⟩
  cases x with
  | ref a => exact absurd rfl (h a)
  | _ => rfl
theorem thing_str {K : PySem.W.Frag} {H : Hp} (z : Str) : Thing K H (.str z) := thing_flat (fun a => by intro e; cases e) (.base (.str z)) (by decide +kernel)
theorem thing_lst {K : PySem.W.Frag} {H : Hp} {a : Addr} {xs : List V} (h : H a = some (.lst xs)) : Thing K H (.ref a) := by
  refine .inr ⟨fun H' s => ?_, "list", .base (.lst h), by decide +kernel⟩
  show (match H' a with | some (.tup xs) => some xs | some (.frz _ (.tup xs)) => some xs | _ => none) = none
  rw [s _ _ h]
theorem thing_dct {K : PySem.W.Frag} {H : Hp} {a : Addr} {xs : List (Key × V)} (h : H a = some (.dK xs)) : Thing K H (.ref a) := by
  refine .inr ⟨fun H' s => ?_, "dict", .base (.dK h), by decide +kernel⟩
  show (match H' a with | some (.tup xs) => some xs | some (.frz _ (.tup xs)) => some xs | _ => none) = none
  rw [s _ _ h]
theorem known_str {K : PySem.W.Frag} {H : Hp} {z : Str} (h : z.length ≤ 1000) (o : PyData.strOk z = true) : Known K H (.str z) := .inl ⟨z, rfl, h, o⟩
theorem known_non {K : PySem.W.Frag} {H : Hp} : Known K H .non := .inr ⟨(fun z e => by cases e), "NoneType", .base .non, by decide +kernel⟩
theorem known_int {K : PySem.W.Frag} {H : Hp} (i : Int) : Known K H (.int i) := .inr ⟨(fun z e => by cases e), "int", .base (.int i), by decide +kernel⟩
theorem known_bl {K : PySem.W.Frag} {H : Hp} (b : Bool) : Known K H (.bl b) := .inr ⟨(fun z e => by cases e), "bool", .base (.bl b), by decide +kernel⟩
theorem known_tup {K : PySem.W.Frag} {H : Hp} {a : Addr} {xs : List V} (h : H a = some (.tup xs)) : Known K H (.ref a) := .inr ⟨(fun z e => by cases e), "tuple", .base (.tup h), by decide +kernel⟩
theorem known_lst {K : PySem.W.Frag} {H : Hp} {a : Addr} {xs : List V} (h : H a = some (.lst xs)) : Known K H (.ref a) := .inr ⟨(fun z e => by cases e), "list", .base (.lst h), by decide +kernel⟩
theorem known_dct {K : PySem.W.Frag} {H : Hp} {a : Addr} {xs : List (Key × V)} (h : H a = some (.dK xs)) : Known K H (.ref a) := .inr ⟨(fun z e => by cases e), "dict", .base (.dK h), by decide +kernel⟩
theorem item_str {K : PySem.W.Frag} {H : Hp} {z : Str} (h : z.length ≤ 1000) (o : PyData.strOk z = true) : Item K H (.str z) := ⟨known_str h o, .str z, .str z, (fine_str o).mono (by decide)⟩
theorem item_non {K : PySem.W.Frag} {H : Hp} : Item K H .non := ⟨known_non, .none, .non, fine_non.mono (by decide)⟩
/-- a text that is short, its signs signs -/
def Word (z : Str) : Prop := z.length ≤ 1000 ∧ PyData.strOk z = true
theorem Word.item {K : PySem.W.Frag} {H : Hp} {z : Str} (h : Word z) : Item K H (.str z) := item_str h.1 h.2
theorem strOk_append {x y : Str} (h : PyData.strOk x = true) (k : PyData.strOk y = true) : PyData.strOk (x ++ y) = true := by
  unfold PyData.strOk at *
  rw [Array.all_eq_true_iff_forall_mem] at *
  intro c hc
  have hc2 : c ∈ x.cps ++ y.cps := hc
  rcases Array.mem_append.mp hc2 with z | z
  · exact h c z
  · exact k c z
theorem strOk_cut {x : Str} (h : PyData.strOk x = true) (lo hi : Option Int) : PyData.strOk (cutS x lo hi) = true := by
  unfold PyData.strOk at *
  rw [Array.all_eq_true_iff_forall_mem] at *
  intro c hc
  have hc2 : c ∈ ((x.cps.toList.drop (HT.sIx x.length 0 lo)).take (HT.sIx x.length x.length hi - HT.sIx x.length 0 lo)) := by
    have : c ∈ (cutS x lo hi).cps.toList := by simpa using hc
    simpa [cutS] using this
  have h3 : c ∈ x.cps.toList := List.mem_of_mem_drop (List.mem_of_mem_take hc2)
  exact h c (by simpa using h3)
/-- repr(b), b a bool -/
theorem cr_reprB {X : Cx} : CallR X (.builtin "repr") (fun xs H Q => ∃ b : Bool, xs = [.bl b] ∧ Q (.str (if b then "True" else "False")) H) := by
  intro pins s σ H xs us Q I r h
  obtain ⟨b, rfl, q⟩ := h
  obtain ⟨u, rfl, ru⟩ := vals1 r
  cases (show u = Value.bool b from ru)
  refine PySem.P.repr_of_bool ⟨.str _, H, I.tok _, ⟨_, rfl⟩, ?_⟩
  exact q
/-- a comprehension over a text, its elements read off the signs -/
theorem lc_str {x : Str} {g : TG} {tt : TT} {te : TE} {vs : List Nat} {σ : St} {H1 : Hp} {D : Addr} {Qd : Hp → Prop} (Pv : Nat → Hp → Prop) (h0 : Pv 0 (upd H1 D (.lst [])))
    (hs : ∀ i c H, x.cps.toList[i]? = some c → Pv i H → g (.str ⟨#[c]⟩) (wipe σ vs) H fun σ2 H2 => wipe σ2 vs = wipe σ vs ∧ tt σ2 H2 fun b H3 =>
      if b = true then te σ2 H3 fun y H4 => ∃ acc, H4 D = some (.lst acc) ∧ acc.length < sizeLine ∧ Pv (i + 1) (upd H4 D (.lst (acc ++ [y]))) else Pv (i + 1) H3) (hd : ∀ H, Pv x.cps.toList.length H → Qd H) :
    ∃ W : Nat → Nat → Hp → Prop, (∃ m, W 0 m (upd H1 D (.lst []))) ∧ ∀ i m H, W i m H →
      ((Its x).stop i H ∧ Qd H) ∨ ((Its x).go i H ∧ ∃ Nx : Hp → Prop, (∀ H', Nx H' → ∃ m', m' < m ∧ W (i + 1) m' H') ∧ ∀ y H', (Its x).yld i H y H' → g y (wipe σ vs) H' fun σ2 H2 => wipe σ2 vs = wipe σ vs ∧ tt σ2 H2 fun b H3 =>
        if b = true then te σ2 H3 fun y H4 => ∃ acc, H4 D = some (.lst acc) ∧ acc.length < sizeLine ∧ Nx (upd H4 D (.lst (acc ++ [y]))) else Nx H3) := by
  have sz : x.cps.toList.length = x.cps.size := Array.length_toList
  refine ⟨fun i m H => m + i = x.cps.size ∧ Pv i H, ⟨x.cps.size, by omega, h0⟩, fun i m H ⟨em, p⟩ => ?_⟩
  by_cases hlt : i < x.cps.size
  · refine .inr ⟨hlt, Pv (i + 1), fun H' p' => ⟨m - 1, by omega, by omega, p'⟩, fun y H' hy => ?_⟩
    obtain ⟨rfl, c, hc, rfl⟩ := hy
    exact hs i c _ (by rw [Array.getElem?_toList]; exact hc) p
  · have e : i = x.cps.toList.length := by omega
    subst e
    exact .inl ⟨by show x.cps.size ≤ _; omega, hd H p⟩
theorem all_filter {α : Type} (f : α → Bool) : ∀ xs : List α, (xs.filter fun x => !f x).isEmpty = xs.all f
  | [] => rfl
  | x :: xs => by
    rw [List.filter_cons, List.all_cons, ← all_filter f xs]
    cases f x <;> rfl
theorem dps {K : PySem.W.Frag} {H : Hp} : ∀ {xs : List V}, (∀ x ∈ xs, ∃ d, Dp K H x d ∧ Fine 8 d) → ∃ ds, DpAll K H xs ds ∧ (∀ d ∈ ds, Fine 8 d) ∧ ds.isEmpty = xs.isEmpty
  | [], _ => ⟨[], .nil, (fun _ h => by cases h), rfl⟩
  | x :: xs, h => by
    obtain ⟨d, h1, h2⟩ := h x (List.mem_cons_self ..)
    obtain ⟨ds, h3, h4, _⟩ := dps (xs := xs) fun y hy => h y (List.mem_cons_of_mem _ hy)
    exact ⟨d :: ds, .cons h1 h3, fun e he => by
      rcases List.mem_cons.mp he with rfl | he
      · exact h2
      · exact h4 e he, rfl⟩
/-- is_name's promise -/
def spName (K : PySem.W.Frag) : Sp := fun vs H Q _ => ∃ x, vs = [x] ∧ Known K H x ∧ ∀ H', Same H H' → Q (.bl (nameV x)) H'
def spOf (K : PySem.W.Frag) (f : Hp → V → Bool) : Sp := fun vs H Q _ => ∃ x, vs = [x] ∧ Thing K H x ∧ ∀ H', Same H H' → Q (.bl (f H x)) H'
/-- what is asked of the module's names -/
structure NamesTxt (mg : Str → Option Value) : Prop where
  len : mg "len" = none
  isi : mg "isinstance" = none
  str : mg "str" = none
  tup : mg "tuple" = none
  all : mg "all" = none
  set : mg "set" = none
end Nb

set_option Elab.async false
set_option maxRecDepth 100000
set_option maxHeartbeats 4000000
/-! enumerate(t), t a tuple. -/
namespace Nb
open PySem PySem.Spec PyProof.Rows L2
/-- the two cells of an enumerate over what begins -/
theorem enumerates {v : Value} {o : Obj} {G : Heap → Prop} (B : Begins v o G) :
    Meets (Builtin.«enumerate.__new__» ⟨[.type "enumerate", v], []⟩) (fun _ R s => G s.heap ∧
      R (.ok (.ret (.ref (s.heap.push o).objs.size))) { s with heap := (s.heap.push o).push { cls := .type "enumerate", data := .fields #[.none, .bool false, .ref s.heap.objs.size, rawInt 0, .none, .none] } }) :=
  .of_wp fun prog w A R s h => by
    obtain ⟨hp, g, d, tk, os⟩ := s
    obtain ⟨here, h⟩ := h
    have hsub := sub_enumerate
    have begin_ : ∀ {A' : Around} {E : Value → Shared → Prop} {Q : Value → Shared → Prop}, Q (.ref hp.objs.size) ⟨hp.push o, g, d, tk, os⟩ → wpAny (model prog w) A' (pyIter v) Q E ⟨hp, g, d, tk, os⟩ :=
      fun q => B.iter prog w _ _ ⟨hp, g, d, tk, os⟩ _ here q
    wp_walk using begin_
    refine wpAny_stack_any fun st => wpAny_pure ?_
    split
    case h_1 c _ _ _ _ _ =>
      cases (c == Value.type "enumerate") <;> (wp_walk using begin_; exact ⟨_, rfl, h⟩)
    case h_2 =>
      wp_walk using begin_
      exact ⟨_, rfl, h⟩
theorem enumerate_made {prog : Program} {w : World} {A : Around} {E : Value → Shared → Prop} {s : Shared} {v : Value} {o : Obj} {G : Heap → Prop} {Q : Value → Shared → Prop} (B : Begins v o G) (here : G s.heap)
    (h : ∀ h', IsEnum h' (s.heap.objs.size + 1) s.heap.objs.size 0 .none → h'.get? s.heap.objs.size = some o → (∀ b u, s.heap.get? b = some u → h'.get? b = some u) → Q (.ref (s.heap.objs.size + 1)) { s with heap := h' }) :
    wpAny (model prog w) A (call (.type "enumerate") [v]) Q E s := by
  refine callType_new F.called_enumerate (by decide) (F.typeCall_enumerate_1 _) (F.newCall_enumerate_1 _) (fun obj => F.args_object_init_2 obj _) F.entry_enumerate_new (enumerates B) ⟨here, ?_⟩
  have two : (s.heap.push o).objs.size = s.heap.objs.size + 1 := Heap.size_push ..
  show _ ∧ _
  rw [two]
  have made := Heap.get?_push_size (s.heap.push o) (o := { cls := .type "enumerate", data := .fields #[.none, .bool false, .ref s.heap.objs.size, rawInt 0, .none, .none] }) rfl
  rw [two] at made
  exact ⟨⟨_, made, rfl⟩, h _ made (Heap.get?_push_of_some _ (Heap.get?_push_size _ B.free)) fun b u x => Heap.get?_push_of_some _ (Heap.get?_push_of_some _ x)⟩
/-- the tuple at a, each item in a new pair with its index -/
def Itet (K : PySem.W.Frag) (a : Addr) : It :=
  ⟨fun i H => ∃ (xs : List V) (x : V), SqT K H a xs ∧ xs[i]? = some x, fun i H v H' => ∃ T x, v = .ref T ∧ H T = none ∧ H' = upd H T (.tup [.int (i : Nat), x]) ∧ ∀ xs, SqT K H a xs → xs[i]? = some x, fun i H => ∃ xs : List V, SqT K H a xs ∧ xs.length = i⟩
theorem turn_enumT {P : Program} {w : World} {K : PySem.W.Frag} {elts : List Expr} {kk : Nat} {tpos : Pos} (a e it : Addr) :
    Turn P w K (.Tuple elts kk tpos) (Itet K a) [e, it] e (fun i h => (∃ old, IsEnum h e it ((i : Nat) : Int) old) ∧ h.IsTupleIter it a i ∧ e ≠ it) where
  mem := by simp
  obj := fun i h st b hb => by
    obtain ⟨⟨old, he⟩, ⟨o, ho, _, hd⟩, _⟩ := st
    have z : b = e ∨ b = it := by simpa using hb
    rcases z with rfl | rfl
    · exact ⟨_, he, fun v q => nomatch q⟩
    · exact ⟨o, ho, fun v q => by rw [hd] at q; cases q⟩
  keep := fun i h h' ⟨⟨old, he⟩, hi, hne⟩ k => ⟨⟨old, k e (by simp) _ he⟩, hi.at fun o q => k it (by simp) o q, hne⟩
  item := by
    intro X hP hw hK hc i pins s σ H E I hf st hg
    subst hP hw hK
    obtain ⟨⟨old, he⟩, hit, hne⟩ := st
    obtain ⟨xs, x, hq, hx⟩ := hg
    obtain ⟨its, rv, tp, hz⟩ := I.tuple hq
    obtain ⟨u, hu, ru⟩ := rv.get hx
    have hel : e < s.heap.objs.size := Heap.lt_size he
    have hil : it < s.heap.objs.size := by
      obtain ⟨_, q, _⟩ := hit
      exact Heap.lt_size q
    have nta : a ≠ it := fun z => by
      obtain ⟨o1, e1, c1, _⟩ := hit
      obtain ⟨o2, e2, c2, _⟩ := tp
      rw [z, e1] at e2
      cases e2
      rw [c1] at c2
      injection c2 with c3
      exact absurd c3 (by decide)
    have nea : e ≠ a := fun z => by
      obtain ⟨o2, e2, c2, _⟩ := tp
      have e3 : s.heap.get? a = _ := z ▸ he
      rw [e3] at e2
      cases e2
      injection c2 with c3
      exact absurd c3 (by decide)
    have D := Draws.tuple (prog := X.prog) (w := X.w) (A := X.A.in1) (show X.A.in1.handled = none from I.ok.hd hc) it a nta its.toArray
    have sz : i < its.toArray.size := by
      have := (List.getElem?_eq_some_iff.mp hu).1
      simpa using this
    refine wpAny_pyNext_enum_itemD D he ⟨hit, tp⟩ sz hne (by simp [hne, nea]) fun y h' tk py ho st' hT hsz hk => ?_
    have ey : y = u := by
      have p2 : its.toArray[i]? = some u := by simpa using hu
      exact Option.some.inj (py.symm.trans p2)
    subst ey
    refine ⟨_, rfl, wpAny_letOwnedTupleGo_enum (s := { s with heap := h', toks := tk + 1 }) ho fun h'' he' sb => ?_⟩
    have hT2 : h''.get? s.heap.objs.size = some { cls := .type "tuple", data := .seq #[.int i tk, y] } := (sb.2 _ (Nat.ne_of_gt hel)).trans hT
    have new : ObjOk X.prog X.w (upd H s.heap.objs.size (.tup [.int (i : Nat), x])) h'' s.heap.objs.size (.tup [.int (i : Nat), x]) :=
      ⟨by show 2 ≤ sizeLine; decide, [.int i tk, y], .cons ⟨_, rfl⟩ (.cons ru .nil), ⟨_, hT2, rfl, _, rfl⟩⟩
    have I1 : Inv X pins σ (upd H s.heap.objs.size (.tup [.int (i : Nat), x])) { s with heap := h'', toks := tk + 1 } :=
      I.turnedNew (ch := [e, it]) (fun b ob hb q => (sb.2 b (fun z => hb (by simp [z]))).trans (hk b ob (fun z => hb (by simp [z])) (fun z => hb (by simp [z])) q)) hf (Nat.le_refl _) new
    refine ⟨.ref s.heap.objs.size, _, I1, rfl, ⟨_, x, rfl, I.hok.fresh (Nat.le_refl _), rfl, fun ys hy => by rw [I.tuple_inj hy hq]; exact hx⟩, ⟨⟨y, ?_⟩, st'.1.at fun o q => (sb.2 it (Ne.symm hne)).trans q, hne⟩, fun b hb => ?_⟩
    · have e1 : ((i + 1 : Nat) : Int) = (i : Int) + 1 := by omega
      rw [e1]
      exact he'
    · have hb' : b < s.heap.objs.size := by
        have z : b = e ∨ b = it := by simpa using hb
        rcases z with rfl | rfl
        · exact hel
        · exact hil
      rw [upd_ne (Nat.ne_of_lt hb')]
      exact (hf b hb).1
  done := by
    intro X hP hw hK hc i pins s σ H E I hf st hg
    subst hP hw hK
    obtain ⟨⟨old, he⟩, hit, hne⟩ := st
    obtain ⟨xs, hq, hx⟩ := hg
    obtain ⟨its, rv, tp, hz⟩ := I.tuple hq
    obtain ⟨f0, f1, f2, f3, f4, f5⟩ := hf it (by simp)
    have nta : a ≠ it := fun z => by
      obtain ⟨o1, e1, c1, _⟩ := hit
      obtain ⟨o2, e2, c2, _⟩ := tp
      rw [z, e1] at e2
      cases e2
      rw [c1] at c2
      injection c2 with c3
      exact absurd c3 (by decide)
    have sz : its.toArray.size = i := by
      have hl := rv.length
      rw [List.size_toArray, ← hl, hx]
    have D := Draws.tuple (prog := X.prog) (w := X.w) (A := X.A.in1) (show X.A.in1.handled = none from I.ok.hd hc) it a nta its.toArray
    refine wpAny_pyNext_enum_endD D he ⟨by rw [sz]; exact hit, tp⟩ fun h' eb => ⟨rfl, I.turned (t' := s.toks) (fun b o hb q => eb b o hb q) f0 f1 f3 f4 f5⟩
  self := fun A i s Q E st h => let ⟨⟨_, he⟩, _⟩ := st; wpAny_pyIter_enum he h
def iEnumT (K : PySem.W.Frag) (ta : TA) : TI := fun σ H R => ta σ H fun vs H1 => ∃ a xs, vs = [.ref a] ∧ SqT K H1 a xs ∧ R (Itet K a) H1
theorem pi_enumT {X : Cx} {e : Expr} {ta : TA} {p pos tpos : Pos} {elts : List Expr} {kk : Nat} (hg : Gl X "enumerate") (hm : X.mg "enumerate" = none) (ha : PA X [e] ta) (hs : starEach [e] X.env = [(false, eval e X.env)] := by rfl) :
    PI X (.Tuple elts kk tpos) (.Call (.Name "enumerate" p) [e] [] pos) (iEnumT X.K ta) := by
  refine ⟨fun pins s σ H R I h => Call_ (ld_blt I hg hm boot_enumerate (callWith_type1 (thn (ha.run pos pins s σ H _ I h) fun us s1 ⟨vs, H1, I1, r1, q1⟩ => ?_) hs rfl))⟩
  obtain ⟨a, xs, rfl, hq, q⟩ := q1
  cases r1 with
  | cons r rr =>
    cases rr
    cases r
    obtain ⟨its, rv, tp, hz⟩ := I1.tuple hq
    refine enumerate_made (begins_tuple a its.toArray) tp fun h' he hit hk => wpAny_pyIter_enum he ?_
    refine ⟨s1.heap.objs.size + 1, [s1.heap.objs.size + 1, s1.heap.objs.size], _, _, H1, rfl, I1.kept (t' := s1.toks) hk, turn_enumT a (s1.heap.objs.size + 1) s1.heap.objs.size, ⟨⟨.none, he⟩, ⟨_, hit, rfl, rfl⟩, Nat.succ_ne_self _⟩, fun b hb => ?_, q⟩
    have hle : s1.heap.objs.size ≤ b := by
      have z : b = s1.heap.objs.size + 1 ∨ b = s1.heap.objs.size := by simpa using hb
      rcases z with rfl | rfl
      · exact Nat.le_succ _
      · exact Nat.le_refl _
    have I2 : Inv X pins σ H1 { s1 with heap := h' } := I1.kept (t' := s1.toks) hk
    have old := I1.fpOk hle (I1.hok.fresh hle)
    exact old
theorem walk_enumT {K : PySem.W.Frag} {a : Addr} {xs : List V} : Walk (Itet K a) xs.length (fun H => SqT K H a xs) (YPair (fun i => some (.int (i : Nat))) (fun i => xs[i]?)) :=
  ⟨fun i H hi h => ⟨xs, xs[i], h, List.getElem?_eq_getElem hi⟩, fun H h => ⟨xs, h, rfl⟩, fun i H v H' hi h hy => by
    obtain ⟨T, x, e1, e2, e3, e4⟩ := hy
    exact ⟨T, .int (i : Nat), x, e1, e2, e3, rfl, e4 xs h⟩⟩
end Nb

set_option Elab.async false
set_option maxRecDepth 100000
set_option maxHeartbeats 4000000
/-! Data that stands in the heap, to a depth; rows of names. -/
namespace Nb
open PySem L2
mutual
/-- the value is this data: texts short, lists and tuples short, not deeper than n, no dict -/
inductive Td (H : Hp) : Nat → V → PyData → Prop
  | non {n} : Td H n .non .none
  | bl {n} (b : Bool) : Td H n (.bl b) (.bool b)
  | int {n} (i : Int) : Td H n (.int i) (.int i)
  | str {n} {z : Str} (h : Word z) : Td H n (.str z) (.str z)
  | lst {n} {a : Addr} {xs : List V} {ds : List PyData} (e : H a = some (.lst xs)) (l : xs.length ≤ 1000) (h : Tds H n xs ds) : Td H (n + 1) (.ref a) (.list ds)
  | tup {n} {a : Addr} {xs : List V} {ds : List PyData} (e : H a = some (.tup xs)) (l : xs.length ≤ 1000) (h : Tds H n xs ds) : Td H (n + 1) (.ref a) (.tuple ds)
inductive Tds (H : Hp) : Nat → List V → List PyData → Prop
  | nil {n} : Tds H n [] []
  | cons {n} {x : V} {d : PyData} {xs : List V} {ds : List PyData} (h : Td H n x d) (t : Tds H n xs ds) : Tds H n (x :: xs) (d :: ds)
end
section
variable {H H' : Hp}
mutual
theorem td_same (s : Same H H') : ∀ {n : Nat} {x : V} {d : PyData}, Td H n x d → Td H' n x d
  | _, _, _, .non => .non
  | _, _, _, .bl b => .bl b
  | _, _, _, .int i => .int i
  | _, _, _, .str h => .str h
  | _, _, _, .lst e l h => .lst (s _ _ e) l (tds_same s h)
  | _, _, _, .tup e l h => .tup (s _ _ e) l (tds_same s h)
theorem tds_same (s : Same H H') : ∀ {n : Nat} {xs : List V} {ds : List PyData}, Tds H n xs ds → Tds H' n xs ds
  | _, _, _, .nil => .nil
  | _, _, _, .cons h t => .cons (td_same s h) (tds_same s t)
end
mutual
theorem td_up : ∀ {n : Nat} {x : V} {d : PyData}, Td H n x d → Td H (n + 1) x d
  | _, _, _, .non => .non
  | _, _, _, .bl b => .bl b
  | _, _, _, .int i => .int i
  | _, _, _, .str h => .str h
  | _, _, _, .lst e l h => .lst e l (tds_up h)
  | _, _, _, .tup e l h => .tup e l (tds_up h)
theorem tds_up : ∀ {n : Nat} {xs : List V} {ds : List PyData}, Tds H n xs ds → Tds H (n + 1) xs ds
  | _, _, _, .nil => .nil
  | _, _, _, .cons h t => .cons (td_up h) (tds_up t)
end
mutual
theorem td_dp {K : PySem.W.Frag} : ∀ {n : Nat} {x : V} {d : PyData}, Td H n x d → Dp K H x d ∧ d.canLay0 = true ∧ d.depth ≤ n
  | _, _, _, .non => ⟨.non, by simp [PyData.canLay0], by simp [PyData.depth]⟩
  | _, _, _, .bl b => ⟨.bl b, by simp [PyData.canLay0], by simp [PyData.depth]⟩
  | _, _, _, .int i => ⟨.int i, by simp [PyData.canLay0], by simp [PyData.depth]⟩
  | _, _, _, .str h => ⟨.str _, by simpa [PyData.canLay0] using h.2, by simp [PyData.depth]⟩
  | _, _, _, .lst e l h => by
    have k := tds_dp (K := K) h
    exact ⟨.lst (SqL.of e) k.1, by simpa [PyData.canLay0] using k.2.1, by simpa [PyData.depth] using k.2.2⟩
  | _, _, _, .tup e l h => by
    have k := tds_dp (K := K) h
    exact ⟨.tup (SqT.of e) k.1, by simpa [PyData.canLay0] using k.2.1, by simpa [PyData.depth] using k.2.2⟩
theorem tds_dp {K : PySem.W.Frag} : ∀ {n : Nat} {xs : List V} {ds : List PyData}, Tds H n xs ds → DpAll K H xs ds ∧ PyData.canLayAll0 ds = true ∧ PyData.depthAll ds ≤ n
  | _, _, _, .nil => ⟨.nil, by simp [PyData.canLayAll0], by simp [PyData.depthAll]⟩
  | _, _, _, .cons h t => by
    have k := td_dp (K := K) h
    have j := tds_dp (K := K) t
    refine ⟨.cons k.1 j.1, by simp [PyData.canLayAll0, k.2.1, j.2.1], ?_⟩
    simp only [PyData.depthAll]
    exact Nat.max_le.mpr ⟨k.2.2, j.2.2⟩
end
theorem td_shaped {K : PySem.W.Frag} {n : Nat} {x : V} {d : PyData} (h : Td H n x d) (l : n ≤ 64) : SeqAt.shaped d = true := by
  have k := td_dp (K := K) h
  exact Fine.shaped (n := n) ⟨k.2.1, k.2.2⟩ l
theorem tds_len : ∀ {n : Nat} {xs : List V} {ds : List PyData}, Tds H n xs ds → xs.length = ds.length
  | _, _, _, .nil => rfl
  | _, _, _, .cons _ t => congrArg (· + 1) (tds_len t)
theorem tds_get : ∀ {n : Nat} {xs : List V} {ds : List PyData} {i : Nat} {x : V}, Tds H n xs ds → xs[i]? = some x → ∃ d, ds[i]? = some d ∧ Td H n x d
  | _, _, _, _, _, .nil, e => by simp at e
  | _, _, _, 0, _, .cons h t, e => by
    simp at e
    subst e
    exact ⟨_, rfl, h⟩
  | _, _, _, i + 1, _, .cons h t, e => by
    obtain ⟨d, e1, e2⟩ := tds_get (i := i) t (by simpa using e)
    exact ⟨d, by simpa using e1, e2⟩
theorem tds_app : ∀ {n : Nat} {xs ys : List V} {ds es : List PyData}, Tds H n xs ds → Tds H n ys es → Tds H n (xs ++ ys) (ds ++ es)
  | _, _, _, _, _, .nil, k => k
  | _, _, _, _, _, .cons h t, k => .cons h (tds_app t k)
theorem tds_take : ∀ {n : Nat} {xs : List V} {ds : List PyData} (i : Nat), Tds H n xs ds → Tds H n (xs.take i) (ds.take i)
  | _, _, _, 0, _ => .nil
  | _, _, _, i + 1, .nil => .nil
  | _, _, _, i + 1, .cons h t => .cons h (tds_take i t)
theorem tds_drop : ∀ {n : Nat} {xs : List V} {ds : List PyData} (i : Nat), Tds H n xs ds → Tds H n (xs.drop i) (ds.drop i)
  | _, _, _, 0, t => t
  | _, _, _, i + 1, .nil => .nil
  | _, _, _, i + 1, .cons _ t => tds_drop i t
theorem tds_rev : ∀ {n : Nat} {xs : List V} {ds : List PyData}, Tds H n xs ds → Tds H n xs.reverse ds.reverse
  | _, _, _, .nil => .nil
  | _, _, _, .cons h t => by
    rw [List.reverse_cons, List.reverse_cons]
    exact tds_app (tds_rev t) (.cons h .nil)
/-- some data for each -/
theorem tds_ex : ∀ {n : Nat} {xs : List V}, (∀ x ∈ xs, ∃ d, Td H n x d) → ∃ ds, Tds H n xs ds
  | _, [], _ => ⟨[], .nil⟩
  | n, x :: xs, h => by
    obtain ⟨d, k⟩ := h x (List.mem_cons_self ..)
    obtain ⟨ds, j⟩ := tds_ex (n := n) (xs := xs) fun y hy => h y (List.mem_cons_of_mem _ hy)
    exact ⟨d :: ds, .cons k j⟩
theorem tds_mem : ∀ {n : Nat} {xs : List V} {ds : List PyData} {x : V}, Tds H n xs ds → x ∈ xs → ∃ d, d ∈ ds ∧ Td H n x d
  | _, _, _, _, .nil, e => by cases e
  | _, _, _, _, .cons h t, e => by
    rcases List.mem_cons.mp e with rfl | e
    · exact ⟨_, List.mem_cons_self .., h⟩
    · obtain ⟨d, e1, e2⟩ := tds_mem t e
      exact ⟨d, List.mem_cons_of_mem _ e1, e2⟩
theorem td_ty {K : PySem.W.Frag} : ∀ {n : Nat} {x : V} {d : PyData}, Td H n x d → TyX K H x (.type (match d with | .none => "NoneType" | .bool _ => "bool" | .int _ => "int" | .str _ => "str" | .list _ => "list" | .tuple _ => "tuple" | .dict _ => "dict"))
  | _, _, _, .non => .base .non
  | _, _, _, .bl b => .base (.bl b)
  | _, _, _, .int i => .base (.int i)
  | _, _, _, .str (z := z) h => .base (.str z)
  | _, _, _, .lst e l h => .base (.lst e)
  | _, _, _, .tup e l h => .base (.tup e)
theorem td_known {K : PySem.W.Frag} : ∀ {n : Nat} {x : V} {d : PyData}, Td H n x d → Known K H x
  | _, _, _, .non => known_non
  | _, _, _, .bl b => known_bl b
  | _, _, _, .int i => known_int i
  | _, _, _, .str h => known_str h.1 h.2
  | _, _, _, .lst e l h => known_lst e
  | _, _, _, .tup e l h => known_tup e
end
/-- in, a tuple of data -/
def rInT (K : PySem.W.Frag) : R2 := fun x y H Q => ∃ d ds, Dp K H x d ∧ Dp K H y (.tuple ds) ∧ SeqAt.shaped d = true ∧ SeqAt.shaped (.tuple ds) = true ∧ Q (.bl (ds.any fun z => PyData.eqv z d)) H
theorem op_inT {X : Cx} (hu : X.A.units + 65 < cLine) : OpR X (compareOp .In) (rInT X.K) := by
  intro pins s σ H x y v u Q I rx ry h
  obtain ⟨d, ds, hd, he, sd, se, q⟩ := h
  obtain ⟨as, r1⟩ := Dp.reads I d x v hd rx
  obtain ⟨bs, r2⟩ := Dp.reads I (.tuple ds) y u he ry
  have l1 := SeqAt.canLay_of_shaped se
  have d1 := SeqAt.depth_of_shaped sd
  refine SeqAt.in_tuple_reads r2 r1 (by simpa [PyData.canLay0] using l1) (SeqAt.canLay_of_shaped sd) ?_ ⟨.bl _, H, I, rfl, q⟩
  have := Nat.min_le_right (PyData.depthAll ds) d.depth
  omega
/-! ### rows of names -/
def GoodRow (row : List Str) : Prop := row.Nodup ∧ (∀ z ∈ row, isNm z = true ∧ Word z) ∧ row.length ≤ 8
def RowsAt (H : Hp) (r : Addr) (rows : List (List Str)) : Prop := ∃ as : List Addr, H r = some (.tup (as.map V.ref)) ∧ as.length = rows.length ∧ ∀ (k : Nat) (a : Addr) (row : List Str), as[k]? = some a → rows[k]? = some row → Rd H a (.tup (row.map V.str))
theorem rows_same {H H' : Hp} {r : Addr} {rows : List (List Str)} (s : Same H H') (h : RowsAt H r rows) : RowsAt H' r rows :=
  let ⟨as, h1, h2, h3⟩ := h; ⟨as, s _ _ h1, h2, fun k a row e1 e2 => rd_same s (h3 k a row e1 e2)⟩
theorem strsOf_map : ∀ l : List Str, strsOf (l.map V.str) = l
  | [] => rfl
  | x :: l => by
    show x :: strsOf (l.map V.str) = x :: l
    rw [strsOf_map l]
theorem seen_nodup : ∀ (l acc : List Str), (acc ++ l).Nodup → l.foldl grow acc = acc ++ l
  | [], acc, _ => by simp
  | x :: l, acc, h => by
    have hx : acc.any (· == x) = false := by
      cases e : acc.any (· == x) with
      | false => rfl
      | true =>
        obtain ⟨y, hy, ey⟩ := List.any_eq_true.mp e
        have ey2 : y = x := eq_of_beq ey
        subst ey2
        have h2 := (List.nodup_append.mp h).2.2 y hy y (List.mem_cons_self ..)
        exact absurd rfl h2
    have g : grow acc x = acc ++ [x] := by
      unfold grow
      rw [hx]
      rfl
    show l.foldl grow (grow acc x) = acc ++ x :: l
    rw [g, seen_nodup l (acc ++ [x]) (by simpa using h)]
    simp
theorem good_diff {row : List Str} (h : GoodRow row) : diffV (row.map V.str) = true := by
  unfold diffV
  have h1 : (row.map V.str).all nameV = true := by
    rw [List.all_map, List.all_eq_true]
    intro z hz
    exact (h.2.1 z hz).1
  have h2 : seen row = row := by
    have := seen_nodup row [] (by simpa using h.1)
    simpa [seen] using this
  rw [h1, strsOf_map, h2]
  simp
theorem good_thing {K : PySem.W.Frag} {H : Hp} {a : Addr} {row : List Str} (h : GoodRow row) (e : Rd H a (.tup (row.map V.str))) : Thing K H (.ref a) :=
  .inl ⟨a, _, rfl, e, by rw [List.length_map]; exact Nat.le_trans h.2.2 (by decide), fun y hy => by
    obtain ⟨z, hz, rfl⟩ := List.mem_map.mp hy
    exact (h.2.1 z hz).2.item⟩
/-! ### clashes, as data -/
/-- the place of a name in a row -/
def place (row : List Str) (d : PyData) : Option Nat := match d with
  | .str x => row.findIdx? (· == x)
  | _ => none
def nmD : PyData → Bool
  | .str x => isNm x
  | _ => false
def ixD (n : Nat) : PyData → Bool
  | .int i => decide (0 ≤ i) && decide (i < n)
  | _ => false
def before (row : List Str) (a b : PyData) : Bool := match place row a, place row b with
  | some i, some j => decide (i < j)
  | _, _ => false
theorem before_str (row : List Str) (x y : Str) : before row (.str x) (.str y) = match row.findIdx? (· == x), row.findIdx? (· == y) with
  | some i, some j => decide (i < j)
  | _, _ => false := rfl
def stepD (rows : List (List Str)) : PyData → Bool
  | .tuple [a, b, .int i] => ixD rows.length (.int i) && before (rows.getD i.toNat []) a b
  | _ => false
def sndD : PyData → PyData
  | .tuple [_, b, _] => b
  | _ => .none
def fstD : PyData → PyData
  | .tuple [a, _, _] => a
  | _ => .none
def strD : PyData → Str
  | .str x => x
  | _ => Str.empty
/-- each step begins where the one ahead of it ends, the first one where the last one ends -/
def ringP (ds : List PyData) (j : Nat) : Bool := decide (strD (sndD (ds.getD (if j = 0 then ds.length - 1 else j - 1) .none)) = strD (fstD (ds.getD j .none)))
def ringD (ds : List PyData) : Bool := (List.range ds.length).all (ringP ds)
def clashD (rows : List (List Str)) : PyData → Bool
  | .tuple ds => decide (2 ≤ ds.length) && ds.all (stepD rows) && ringD ds
  | _ => false
theorem clash_tup (rows : List (List Str)) (ds : List PyData) : clashD rows (.tuple ds) = (decide (2 ≤ ds.length) && ds.all (stepD rows) && ringD ds) := rfl
/-- a step that fits is three values -/
theorem step_form {rows : List (List Str)} {H : Hp} {n : Nat} {v : V} {d : PyData} (h : stepD rows d = true) (t : Td H n v d) : ∃ b x y k, v = .ref b ∧ d = .tuple [.str x, .str y, .int k] ∧ H b = some (.tup [.str x, .str y, .int k]) := by
  cases t with
  | tup e l ts =>
    rename_i m a xs ds
    match ds, h with
    | [d1, d2, .int k], h =>
      cases ts with
      | cons k1 ts => cases ts with
        | cons k2 ts => cases ts with
          | cons k3 ts =>
            cases ts
            have hb : before (rows.getD k.toNat []) d1 d2 = true := (Bool.and_eq_true_iff.mp h).2
            cases k3
            cases k1 with
            | str w1 => cases k2 with
              | str w2 => exact ⟨_, _, _, _, rfl, rfl, e⟩
              | _ => simp [before, place] at hb
            | _ => simp [before, place] at hb
  | _ => cases h
/-- a dict comprehension over what walks -/
theorem dc_it {J : It} {n : Nat} {G : Hp → Prop} {Y : Nat → Hp → V → Hp → Prop} (w : Walk J n G Y) {g : TG} {tt : TT} {tk tv : TE} {vs : List Nat} {σ : St} {H1 : Hp} {D : Addr} {Qd : Hp → Prop} (Pv : Nat → Hp → Prop) (h0 : Pv 0 (upd H1 D (.dK []))) (hG : ∀ i H, i ≤ n → Pv i H → G H)
    (hs : ∀ i x H H', i < n → Pv i H → Y i H x H' → g x (wipe σ vs) H' fun σ2 H2 => wipe σ2 vs = wipe σ vs ∧ tt σ2 H2 fun b H3 =>
      if b = true then tk σ2 H3 fun y H4 => tv σ2 H4 fun z H5 => ∃ kvs k, y = kV k ∧ H5 D = some (.dK kvs) ∧ kvs.length < sizeLine ∧ Pv (i + 1) (upd H5 D (.dK (putK kvs k z))) else Pv (i + 1) H3) (hd : ∀ H, Pv n H → Qd H) :
    ∃ W : Nat → Nat → Hp → Prop, (∃ m, W 0 m (upd H1 D (.dK []))) ∧ ∀ i m H, W i m H →
      (J.stop i H ∧ Qd H) ∨ (J.go i H ∧ ∃ Nx : Hp → Prop, (∀ H', Nx H' → ∃ m', m' < m ∧ W (i + 1) m' H') ∧ ∀ x H', J.yld i H x H' → g x (wipe σ vs) H' fun σ2 H2 => wipe σ2 vs = wipe σ vs ∧ tt σ2 H2 fun b H3 =>
        if b = true then tk σ2 H3 fun y H4 => tv σ2 H4 fun z H5 => ∃ kvs k, y = kV k ∧ H5 D = some (.dK kvs) ∧ kvs.length < sizeLine ∧ Nx (upd H5 D (.dK (putK kvs k z))) else Nx H3) := by
  refine ⟨fun i m H => m + i = n ∧ Pv i H, ⟨n, rfl, h0⟩, fun i m H ⟨em, p⟩ => ?_⟩
  by_cases hlt : i < n
  · exact .inr ⟨w.goes i H hlt (hG i H (Nat.le_of_lt hlt) p), Pv (i + 1), fun H' p' => ⟨m - 1, by omega, by omega, p'⟩, fun x H' y => hs i x H H' hlt p (w.yields i H x H' hlt (hG i H (Nat.le_of_lt hlt) p) y)⟩
  · have e : i = n := by omega
    subst e
    exact .inl ⟨w.stops H (hG _ H (Nat.le_refl _) p), hd H p⟩
end Nb

set_option Elab.async false
set_option maxRecDepth 100000
set_option maxHeartbeats 4000000
namespace Nb
open PySem L2
theorem src_at {H : Hp} {p D : Addr} {o : HO} {b : Nat} (S : Src H p b) (n : p ≠ D) : Src (upd H D o) p b := by
  obtain ⟨c, m, r, e, k⟩ := S
  exact ⟨c, m, r, by rw [upd_ne n]; exact e, k⟩
theorem src_fresh {H : Hp} {p D : Addr} {b : Nat} (S : Src H p b) (h : H D = none) : D ≠ p := fun z => by
  obtain ⟨u, e⟩ := S.some
  rw [← z, h] at e
  cases e
/-- tuple + tuple, whichever of the two is empty -/
theorem cat_tup {K : PySem.W.Frag} {H : Hp} {a b : Addr} {xs ys : List V} {Q : VK} (ha : SqT K H a xs) (hb : H b = some (.tup ys)) (hy : ys ≠ []) (hl : xs.length + ys.length ≤ sizeLine)
    (h : ∀ p H', Same H H' → (∀ c, H c ≠ none → H' c = H c) → H' p = some (.tup (xs ++ ys)) → Q (.ref p) H') : rCatA K (.ref a) (.ref b) H Q := by
  refine ⟨a, b, xs, ys, rfl, rfl, ha, SqT.of hb, hl, fun e => ?_, fun _ e => absurd e hy, fun _ _ p hp => ?_⟩
  · subst e
    exact h b H (Same.refl H) (fun _ _ => rfl) hb
  · exact h p _ (same_new hp) (fun c hc => upd_ne (fun z => hc (z ▸ hp))) upd_same
theorem cut_mem {xs : List V} {lo hi : Option Int} {y : V} (h : y ∈ cutV xs lo hi) : y ∈ xs := List.mem_of_mem_drop (List.mem_of_mem_take h)
theorem map_item {K : PySem.W.Frag} {H : Hp} {ys : List Str} (h : ∀ z ∈ ys, Word z) : ∀ y ∈ ys.map V.str, Item K H y := fun y hy => by
  obtain ⟨z, hz, rfl⟩ := List.mem_map.mp hy
  exact (h z hz).item
/-- the law's promise -/
def spLaw (K : PySem.W.Frag) : Sp := fun vs H Q _ => ∃ (a : Addr) (ns : List Int), vs = [.ref a] ∧ SqL K H a (ns.map V.int) ∧ ns.length ≤ 63 ∧ ∀ H', Q (.bl true) H'
end Nb

set_option Elab.async false
set_option linter.all false
set_option maxRecDepth 100000
set_option maxHeartbeats 4000000
/-! Classes, their methods, and defs with a star, each with all that a caller must know. -/
namespace Nb
open PySem PySem.Spec PyProof.Rows
open L2 hiding del del_ne del_same
/-- a class of the text: the names of its instances' attributes are no names of the class -/
structure Kl (K : PySem.W.Frag) (mg : Str → Option Value) (x : Str) (C : Addr) (fs : List Str) : Prop where
  cl : Cls K C
  g : mg x = some (.ref C)
  no : ∀ f ∈ fs, NoAttr K C f
structure Mn (P : Program) (w : World) (K : PySem.W.Frag) (mg : Str → Option Value) (base : Heap) (CX : CXT) (k : Nat) (C : Addr) (m : Str) (ps : List Str) (sp : Sp) : Prop where
  ex : ∃ (f : Addr) (fd : FuncData), Meth K C m f ∧ Binds K fd ps [] ∧ FnOk P w K mg base CX k f fd ps sp
/-- a class's own __init__ -/
structure Mi (P : Program) (w : World) (K : PySem.W.Frag) (mg : Str → Option Value) (base : Heap) (CX : CXT) (k : Nat) (C : Addr) (ps : List Str) (sp : Sp) : Prop where
  ex : ∃ (f : Addr) (fd : FuncData), Mk K C f ∧ Binds K fd ps [] ∧ FnOk P w K mg base CX k f fd ps sp
/-- a def with a star: its promise is of the positional arguments -/
structure Dr (P : Program) (w : World) (K : PySem.W.Frag) (mg : Str → Option Value) (base : Heap) (CX : CXT) (k : Nat) (x : Str) (sp : Sp) : Prop where
  ex : ∃ f : Addr, PySem.W.keepIn K (.ref f) = true ∧ mg x = some (.ref f) ∧ FnR P w K mg base CX k f sp
section
variable {X : Cx} {CX : CXT} {k : Nat} {ps : List Str} {sp : Sp} {E : XK} {W : L2.St → XK} {x m : Str} {p pos apos : Pos} {o e : Expr} {es : List Expr} {ta : TE} {t : TA} {C : Addr}
theorem pe_M {pl : Sem Bool} (D : Mn X.prog X.w X.K X.mg X.base CX k C m ps sp) (c : Cls X.K C) (he : PE X o ta) (hr : Room k X.A) (hx : Passes CX X E) (ha : PA X (e :: es) t)
    (hst : starEach (e :: es) X.env = (false, eval e X.env) :: starEach es X.env := by rfl) (hpl : (backTo pos (starEach es X.env)).any (·.1) = false := by rfl)
    (ht : eval (.Call (.Attribute o m apos) (e :: es) [] pos) X.env = (do
      let ov ← eval o X.env
      standAt apos.atName
      let (f, first) ← holding [ov] (getMethod ov m pl)
      callWith pos f first (backTo pos (starEach (e :: es) X.env)) (backToKw pos (keywordEach [] X.env))) := by rfl) : PE X (.Call (.Attribute o m apos) (e :: es) [] pos) (tMeth C m sp [] E ta t) :=
  let ⟨_, _, M, b, F⟩ := D.ex
  pe_meth he c M F hr b .nil hx ha hst hpl ht
theorem pe_M0 {pl : Sem Bool} (D : Mn X.prog X.w X.K X.mg X.base CX k C m ps sp) (c : Cls X.K C) (he : PE X o ta) (hr : Room k X.A) (hx : Passes CX X E)
    (ht : eval (.Call (.Attribute o m apos) [] [] pos) X.env = (do
      let ov ← eval o X.env
      standAt apos.atName
      let (f, first) ← holding [ov] (getMethod ov m pl)
      callWith pos f first (backTo pos (starEach [] X.env)) (backToKw pos (keywordEach [] X.env))) := by rfl) : PE X (.Call (.Attribute o m apos) [] [] pos) (tMeth C m sp [] E ta tNil) :=
  let ⟨_, _, M, b, F⟩ := D.ex
  pe_meth0 he c M F hr b .nil hx ht
theorem pe_Mi (D : Mi X.prog X.w X.K X.mg X.base CX k C ps sp) (hr : Room (k + 1) X.A) (hg : Gl X x) (hm : X.mg x = some (.ref C)) (hx : Passes CX X E) (ha : PA X (e :: es) t)
    (hdb : (x == ("__debug__" : Str)) = false := by decide) (he : starEach (e :: es) X.env = (false, eval e X.env) :: starEach es X.env := by rfl) (hpl : (backTo pos (starEach es X.env)).any (·.1) = false := by rfl) : PE X (.Call (.Name x p) (e :: es) [] pos) (tMake C sp [] E t) :=
  let ⟨_, _, M, b, F⟩ := D.ex
  pe_make M F hr hg hm b .nil hx ha hdb he hpl
theorem pe_Mi0 (D : Mi X.prog X.w X.K X.mg X.base CX k C ps sp) (hr : Room (k + 1) X.A) (hg : Gl X x) (hm : X.mg x = some (.ref C)) (hx : Passes CX X E) (hdb : (x == ("__debug__" : Str)) = false := by decide) : PE X (.Call (.Name x p) [] [] pos) (tMake C sp [] E tNil) :=
  let ⟨_, _, M, b, F⟩ := D.ex
  pe_make0 M F hr hg hm b .nil hx hdb
def tR (sp : Sp) (E : XK) (t : TA) : TE := fun σ H Q => t σ H fun vs H1 => sp vs H1 Q E
theorem pe_R (D : Dr X.prog X.w X.K X.mg X.base CX k x sp) (hr : Room k X.A) (hg : Gl X x) (hx : Passes CX X E) (ha : PA X (e :: es) t)
    (hdb : (x == ("__debug__" : Str)) = false := by decide) (he : starEach (e :: es) X.env = (false, eval e X.env) :: starEach es X.env := by rfl) (hpl : (backTo pos (starEach es X.env)).any (·.1) = false := by rfl) : PE X (.Call (.Name x p) (e :: es) [] pos) (tR sp E t) := by
  obtain ⟨f, kp, g, F⟩ := D.ex
  exact ⟨fun pins s σ H Q I h => wpAny_Call_Name_kw (ld_glob I hg g (PySem.W.callWith_K (h₀ := X.base) I.ok.mod.kin kp (thn (ha.run pos pins s σ H _ I h) fun us s1 ⟨vs, H1, I1, r, q⟩ => ⟨I1.kIn, wpAny_call (run_fnR F hr hx I1 r q)⟩) he hpl) hdb)⟩
theorem pe_R0 (D : Dr X.prog X.w X.K X.mg X.base CX k x sp) (hr : Room k X.A) (hg : Gl X x) (hx : Passes CX X E) (hdb : (x == ("__debug__" : Str)) = false := by decide) : PE X (.Call (.Name x p) [] [] pos) (tR sp E tNil) := by
  obtain ⟨f, kp, g, F⟩ := D.ex
  exact ⟨fun pins s σ H Q I h => wpAny_Call_Name_kw (ld_glob I hg g (PySem.W.callWith_K0 I.kIn kp (wpAny_call (run_fnR F hr hx I .nil h))) hdb)⟩
theorem pe_Rs {sq : Pos} (D : Dr X.prog X.w X.K X.mg X.base CX k x sp) (hr : Room k X.A) (hg : Gl X x) (hx : Passes CX X E) (he : PE X e ta) (hdb : (x == ("__debug__" : Str)) = false := by decide) (hst : starEach [.Starred e sq] X.env = [(true, eval e X.env)] := by rfl) :
    PE X (.Call (.Name x p) [.Starred e sq] [] pos) (fun σ H Q => ta σ H fun y H1 => ∃ a xs, y = V.ref a ∧ (SqT X.K H1 a xs ∨ SqL X.K H1 a xs) ∧ sp xs H1 Q E) :=
  let ⟨_, kp, g, F⟩ := D.ex
  StX.pe_callS1 F hr kp hg g hx he hdb hst
/-- a def that is never called needs no promise -/
theorem fn_never {P : Program} {w : World} {K : PySem.W.Frag} {mg : Str → Option Value} {base : Heap} {f : Addr} {fd : FuncData} : FnOk P w K mg base CX k f fd ps fun _ _ _ _ => False := ⟨fun _ _ _ _ h => h.elim, fun _ _ _ _ _ _ _ _ _ _ _ _ _ h => h.elim⟩
end
/-! ### an instance whose attributes are told in the order of their first store -/
theorem ins_put {H : Hp} {a C dx : Addr} {fs : List (Str × V)} : upd H a (.ins C dx fs) a = some (.ins C dx fs) := upd_same
end Nb
namespace Nb
open PySem
open L2 hiding del del_ne del_same
/-- e.f within a comprehension: the written part is named -/
theorem pe_fldK {X : Cx} {K : PySem.W.Frag} {e : Expr} {f : Str} {pos : Pos} {ta : TE} (hK : X.K = K) (he : PE X e ta) (hb : attributeBase e f X.env (eval e X.env) = eval e X.env) : PE X (.Attribute e f pos) (tFld K ta f) := by
  subst hK
  exact pe_fld he hb
/-- len(x) within a comprehension: the written part is named -/
theorem call_len_seqK {X : Cx} {K : PySem.W.Frag} (hK : X.K = K) : CallR X (.builtin "len") (fun xs H Q => ∃ p ys, xs = [.ref p] ∧ (SqL K H p ys ∨ SqT K H p ys) ∧ Q (.int ys.length) H) := by
  subst hK
  exact call_len_seq
def spStar (sp : Sp) : Sp := fun vs H Q E => vs.length ≤ 100000 ∧ ∀ p, H p = none → sp [.ref p] (upd H p (.tup vs)) Q E
/-- a def with a star and nothing else, by its body -/
theorem okStar {P : Program} {w : World} {K : PySem.W.Frag} {mg : Str → Option Value} {base : Heap} {x qual pv : Str} {st : Stmt} {f : Addr} {fd : FuncData} {N : List Str} {k : Nat} {sp : Sp} (F : Fun K x qual st f fd) (S : FnScope N [pv] (defScope st))
    (hb0 : ∀ (kV doc pm : Value) (an : Option Addr) (cdv ct : Value), bindArgs (PySem.W.fnOf x qual (defArgs st) (defBody st) (defScope st) .none kV doc pm an cdv ct) ⟨[], []⟩ = (newTuple [] >>= fun t => pure [(pv, t)]))
    (hb1 : ∀ (kV doc pm : Value) (an : Option Addr) (cdv ct : Value) (r : Value) (rs : List Value), bindArgs (PySem.W.fnOf x qual (defArgs st) (defBody st) (defScope st) .none kV doc pm an cdv ct) ⟨r :: rs, []⟩ = (newTuple (r :: rs) >>= fun t => pure [(pv, t)]))
    (hbody : ∀ (cdv : Value) (A : Around) (outer : List Env) (s : Shared) (H : Hp) (vs : List V) (Q : VK) (E : XK), Room k (A.deeper (PyProof.Rows.envOfC qual (defScope st) s.heap.objs.size f cdv)) → sp vs H Q E →
      ∃ t, PSs (cxOf CX0 P w K mg base N qual (defScope st) f cdv A outer s H E).nox (defBody st) t ∧ t { nx := fun _ H' => Q .non H', rt := Q } (start N vs) H) : FnR P w K mg base CX0 (k + 1) f (spStar sp) := by
  obtain ⟨oc, od, kV, doc, pm, an, cdv, ct, osl, rfl, lk, hcd⟩ := F.ex
  refine (StX.fn_star (ps := []) (sp := sp) lk hcd S StX.cxUp_none (fun us rest hl => ?_) (fun A outer s H vs Q E hr h => ?_)).imp fun vs H Q E h => ⟨[], vs, rfl, rfl, line100 h.1, fun p np => h.2 p np⟩
  · cases us with
    | cons a as => cases hl
    | nil =>
      cases rest with
      | nil => exact hb0 kV doc pm an cdv ct
      | cons r rs => exact hb1 kV doc pm an cdv ct r rs
  · obtain ⟨t, h, q⟩ := hbody cdv A outer s H vs Q E hr h
    exact ⟨t, h.nox, q⟩
end Nb

set_option Elab.async false
set_option linter.all false
set_option maxRecDepth 100000
set_option maxHeartbeats 2000000
/-! ==, +, len and truth by a class's own methods. -/
namespace Nb
open PySem PySem.Spec PyProof.Rows
open L2 hiding del del_ne del_same
section
variable {X : Cx} {CX : CXT} {n : Nat} {f : Addr} {fd : FuncData} {ps : List Str} {sp : Sp} {E : XK} {A : Around} {pins : List (Addr × Obj)} {σ : L2.St} {H : Hp} {s : Shared} {Q : VK} {vs : List V} {us : List Value}
/-- an own def, called from within a builtin -/
theorem own_run (F : FnOk X.prog X.w X.K X.mg X.base CX n f fd ps sp) (hb : Binds X.K fd ps []) (hx : Passes CX X E) (sb : L2.Sub X n A) (I : Inv X pins σ H s) (r : Vals vs us) (hsp : sp vs H Q E) :
    wpAny (model X.prog X.w) A (call (.ref f) us) (EP X pins σ Q) X.xe s := by
  have e0 : Env0 X.prog X.w X.K X.mg X.base A X.stack s H := by
    have e := I.env0
    exact ⟨by rw [sb.fr]; exact e.frames, e.mod, e.bs, e.bsz, e.funs, e.frf, e.hok, e.bare⟩
  have hl := F.len _ _ _ _ hsp
  have hl2 : us.length = ps.length := by rw [← r.length]; exact hl
  refine wpAny_call (codeAny_mono (F.run A X.stack s H ⟨us, []⟩ us vs _ E sb.room e0 (by
    have := hb s us I.kIn (by simpa using hl2)
    simpa using this) r hsp) fun r s' hq => ?_)
  cases r with
  | error e => exact hx pins σ H s e s' I hq
  | ok fl =>
    cases fl with
    | ret w => exact I.after hq
    | next => exact False.elim hq
    | brk => exact False.elim hq
    | cont => exact False.elim hq
/-- a method that is asked by its name in the class -/
structure Om (X : Cx) (CX : CXT) (n : Nat) (C : Addr) (m : Str) (ps : List Str) (sp : Sp) : Prop where
  ex : ∃ (f : Addr) (fd : FuncData), PySem.W.findIn X.K (.ref C) m = some (some (.ref f)) ∧ PySem.W.isFn X.K (.ref f) = true ∧ Binds X.K fd ps [] ∧ FnOk X.prog X.w X.K X.mg X.base CX n f fd ps sp
theorem Mn.om {m : Str} {C : Addr} (D : Mn X.prog X.w X.K X.mg X.base CX n C m ps sp) : Om X CX n C m ps sp := let ⟨f, fd, M, b, F⟩ := D.ex; ⟨f, fd, M.at_, M.fn, b, F⟩
/-- x == y by the own __eq__ of x's class, which answers True or False -/
def rEqO (C : Addr) (sp : Sp) (E : XK) (K : PySem.W.Frag) : R2 := fun x y H Q => ∃ a b dx fs D dy gs, x = .ref a ∧ y = .ref b ∧ H a = some (.ins C dx fs) ∧ H b = some (.ins D dy gs) ∧ PySem.W.notFirst K C (.ref D) = true ∧
  sp [.ref a, .ref b] H (fun v H' => ∃ c, v = .bl c ∧ Q (.bl c) H') E
theorem op_eqO {C : Addr} (O : Om X CX n C "__eq__" ps sp) (hr : Room n X.A) (hx : Passes CX X E) : OpR X (compareOp .Eq) (rEqO C sp E X.K) := by
  intro pins s σ H x y v u Q I rx ry hq
  obtain ⟨a, b, dx, fs, D, dy, gs, rfl, rfl, ha, hb', nf, h⟩ := hq
  obtain ⟨f, fd, hs, hf, hbn, F⟩ := O.ex
  cases rx
  cases ry
  obtain ⟨mA, J, _⟩ := ins_get I.hok ha
  obtain ⟨mB, J', _⟩ := ins_get I.hok hb'
  obtain ⟨od, J, _⟩ := J.look
  obtain ⟨od', J', _⟩ := J'.look
  obtain ⟨m, hF⟩ := I.fr
  show wpAny (model X.prog X.w) X.A (richCompare .Eq (.ref a) (.ref b)) (EP X pins σ Q) X.xe s
  refine PySem.W.cmp_K (op := .Eq) (tb := .ref D) hr.units0 hF I.ok.mod.kin J J'.type nf hs hf ?_
  refine wpAny_mono (own_run (vs := [.ref a, .ref b]) F hbn hx ⟨hr, rfl⟩ I (.cons rfl (.cons rfl .nil)) h) (fun r s' z => ?_) fun _ _ e => e
  obtain ⟨v, H', I', rz, c, ez, q⟩ := z
  subst ez
  cases rz
  exact ⟨.bl c, H', I', rfl, q⟩
/-- len(x) by the own __len__ -/
theorem call_lenO {C : Addr} (O : Om X CX n C "__len__" ps sp) (hr : Room (n + 1) X.A) (hx : Passes CX X E) : CallR X (.builtin "len") (fun xs H Q => ∃ a dx fs, xs = [.ref a] ∧ H a = some (.ins C dx fs) ∧ sp [.ref a] H (fun v H' => ∃ k : Int, v = .int k ∧ 0 ≤ k ∧ k < 2 ^ 63 ∧ Q (.int k) H') E) := by
  intro pins s σ H xs us Q I r h
  obtain ⟨a, dx, fs, rfl, ha, h⟩ := h
  obtain ⟨f, fd, hs, hf, hbn, F⟩ := O.ex
  obtain ⟨u, rfl, rx⟩ := vals1 r
  cases rx
  obtain ⟨mA, J, _⟩ := ins_get I.hok ha
  obtain ⟨od, J, _⟩ := J.look
  obtain ⟨m, hF⟩ := I.fr
  refine PySem.W.len_K hF I.ok.mod.kin J hs hf ?_
  refine wpAny_mono (own_run (vs := [.ref a]) F hbn hx (L2.Sub.in1 ⟨hr, rfl⟩) I (.cons rfl .nil) h) (fun r s' z => ?_) fun _ _ e => e
  obtain ⟨v, H', I', rz, k, ez, k0, k1, q⟩ := z
  subst ez
  obtain ⟨t, rfl⟩ := rz
  exact ⟨⟨k0, k1⟩, .int k, H', I'.tok _, ⟨_, rfl⟩, q⟩
end
/-! ### calls of two or more arguments, some of them with a star -/
theorem evalArgs_two {M : Model} {A : Around} {E : Value → Shared → Prop} {s : Shared} {f : Value} {a b : Bool × Sem Value} {rest : List (Bool × Sem Value)} {Q : Args → Shared → Prop}
    (h : wpAny M A (spliced (a :: b :: rest)) (fun vs s' => Q ⟨vs, []⟩ s') E s) : wpAny M A (evalArgs f true (a :: b :: rest) []) Q E s := by
  obtain ⟨c, x⟩ := a
  unfold evalArgs
  cases c
  · show wpAny M A (spliced ((false, x) :: b :: rest) >>= _) Q E s
    refine wpAny_bind (wpAny_mono h (fun vs s' h' => ?_) fun _ _ x => x)
    exact wpAny_holding (wpAny_bind (wpAny_pure (wpAny_bind (wpAny_pure (wpAny_pure h')))))
  · show wpAny M A (spliced ((true, x) :: b :: rest) >>= _) Q E s
    refine wpAny_bind (wpAny_mono h (fun vs s' h' => ?_) fun _ _ x => x)
    exact wpAny_holding (wpAny_bind (wpAny_pure (wpAny_bind (wpAny_pure (wpAny_pure h')))))
/-- x( *a, b, ..): a def with a star of its own, stars among two or more arguments -/
theorem pe_Rmix {X : Cx} {CX : CXT} {k : Nat} {sp : Sp} {E : XK} {x : Str} {p pos : Pos} {e e2 : Expr} {es : List Expr} {t : TA} {b1 b2 : Bool} {y1 y2 : Sem Value} {r1 : List (Bool × Sem Value)} (D : Dr X.prog X.w X.K X.mg X.base CX k x sp) (hr : Room k X.A) (hg : Gl X x) (hx : Passes CX X E) (ha : PA X (e :: e2 :: es) t)
    (hdb : (x == ("__debug__" : Str)) = false := by decide) (he : backTo pos (starEach (e :: e2 :: es) X.env) = (b1, y1) :: (b2, y2) :: r1 := by rfl) (hst : ((b1, y1) :: (b2, y2) :: r1).any (·.1) = true := by rfl) : PE X (.Call (.Name x p) (e :: e2 :: es) [] pos) (tR sp E t) := by
  obtain ⟨f, kp, g, F⟩ := D.ex
  refine ⟨fun pins s σ H Q I h => ?_⟩
  refine wpAny_Call_Name_kw (ld_glob I hg g ?_ hdb)
  have run := ha.run pos pins s σ H _ I h
  rw [he] at run ⊢
  exact PySem.W.ks_call hst (PySem.W.keeps_K kp) (evalArgs_two (thn run fun us s1 ⟨vs, H1, I1, r, q⟩ => ⟨I1.kIn, wpAny_call (run_fnR F hr hx I1 r q)⟩))
end Nb

set_option Elab.async false
set_option linter.all false
set_option maxRecDepth 100000
set_option maxHeartbeats 4000000
/-! x + y of two own classes, one maybe below the other; != by an own __eq__. -/
namespace PySem.W
open PySem PySem.Calls PyProof.Rows Builtin Builtin.ObjectAttr
section
variable {α : Type} {prog : Program} {w : World} {A : Around} {E : Value → Shared → Prop} {s : Shared} {K : Frag}
theorem raise_attr {msg : Str} {Q : α → Shared → Prop} (hh : A.handled = none) (h : ∀ h' tk e, Heap.NewExcOf s.heap h' e "AttributeError" → E (.ref e) { s with heap := h', toks := tk }) (hm : msg.length ≤ sizeLine) :
    wpAny (model prog w) A (raiseErrorStr "AttributeError" msg : Sem α) Q E s := by
  unfold raiseErrorStr
  refine wpAny_bind (wpAny_mkStr (wpAny_bind ?_) hm)
  unfold newExc newTuple
  refine wpAny_bind (wpAny_newObj_type ?_ (by size_fits))
  refine wpAny_bind (m := firstArgMember _ _) (wpAny_of_eq (a := Value.none) (by simp only [firstArgMember, attrError_no_first]; rfl) ?_)
  rw [ownMembersOf_AttributeError]
  refine wpAny_newObj_type ?_ (by size_fits)
  obtain ⟨hp, g, d, tk, os⟩ := s
  unfold raiseNew
  refine wpAny_bind (wpAny_handled ?_)
  rw [hh]
  first
    | refine wpAny_throw ?_
    | refine wpAny_bind (wpAny_pure (wpAny_throw ?_))
  dsimp only
  refine h _ _ _ ⟨fun b ob hb => ?_, Heap.get?_none_of_le (by simp), ?_⟩
  · exact Heap.get?_push_of_some _ (Heap.get?_push_of_some _ hb)
  · exact ⟨_, _, Heap.get?_push_size _ rfl, rfl, rfl, rfl⟩
/-- an attribute that neither the class at D nor its type mc has -/
def missIn (K : Frag) (D : Addr) (mc : Value) (name : Str) : Bool :=
  findIn K mc name == some none && findIn K (.ref D) name == some none && (clsIn K D).any fun cd => decide (cd.name.cps.foldl (fun k c => k + (Str.utf8Of c).length) 0 ≤ 100) && decide (((s!"type object '{cd.name.toString}' has no attribute '" : Str) ++ name ++ "'").length ≤ sizeLine)
theorem looks_nameCut {M : Model} {h : Heap} {C : Addr} {cd : ClassData} (X : K.In h) (hc : clsIn K C = some cd) (hn : cd.name.cps.foldl (fun k c => k + (Str.utf8Of c).length) 0 ≤ 100) : Looks M h (typeNameCut 100 (.ref C)) cd.name.toString := by
  unfold typeNameCut
  refine (looks_clsIn X hc).andThen ?_
  dsimp only
  rw [if_pos hn]
  exact .now
theorem tga_miss {D : Addr} {mc : Value} {name : Str} {tk : Tok} {Q : Fin → Shared → Prop} (X : K.In s.heap) (ho : Looks (model prog w) s.heap (opaqueClassAbove (.ref D)) none) (ht : Looks (model prog w) s.heap (typeOf (.ref D)) mc) (hm : missIn K D mc name = true) (hh : A.handled = none)
    (h : ∀ h' tk e, Heap.NewExcOf s.heap h' e "AttributeError" → E (.ref e) { s with heap := h', toks := tk }) : wpAny (model prog w) A (Builtin.«type.__getattribute__» ⟨[.ref D, .str name tk], []⟩) Q E s := by
  unfold missIn at hm
  obtain ⟨⟨h1, h2⟩, h3⟩ : (findIn K mc name = some none ∧ findIn K (.ref D) name = some none) ∧ _ := by
    rw [Bool.and_eq_true, Bool.and_eq_true, beq_iff_eq, beq_iff_eq] at hm
    exact hm
  obtain ⟨cd, hc, h4⟩ := any_some h3
  rw [Bool.and_eq_true, decide_eq_true_eq, decide_eq_true_eq] at h4
  obtain ⟨hh0, g, d, t, os⟩ := s
  dsimp only at X ho ht
  have L1 := looks_findIn (M := model prog w) X h1
  have L2 := looks_findIn (M := model prog w) X h2
  have L3 := looks_nameCut (M := model prog w) X hc h4.1
  unfold Builtin.«type.__getattribute__»
  refine wpAny_bind (wpAny_pure (wpAny_bind (ho.at (wpAny_bind (ht.at (wpAny_bind (L1.at ?_)))))))
  refine wpAny_bind (wpAny_pure (wpAny_bind (L2.at ?_)))
  refine wpAny_bind (wpAny_rule (wpAny_bind (L3.at ?_)))
  exact raise_attr hh h h4.2
theorem isInst_attr {M : Model} {h : Heap} {e : Addr} {ob : Obj} (he : h.get? e = some ob) (hc : ob.cls = .type "AttributeError") : Looks M h (isInstance (.ref e) (.type "AttributeError")) true := by
  intro A Q E s k q
  unfold isInstance
  refine wpAny_bind (wpAny_typeOf_ref (k _ _ he) ?_)
  rw [hc, sub_AttributeError]
  exact wpAny_pure q
theorem type_hook : typeLookup (.type "type") "__getattr__" = pure none := am_miss_of_fast (by first | decide +kernel | rfl)
theorem getBy_miss {D : Addr} {name : Str} {tk : Tok} {Q : Option Value → Shared → Prop} (X : K.In s.heap) (hr : readsIn K D (.type "type") = true) (hm : missIn K D (.type "type") name = true) (hh : A.handled = none)
    (h : ∀ h' tk', (∀ b o, s.heap.get? b = some o → h'.get? b = some o) → Q none { s with heap := h', toks := tk' }) : wpAny (model prog w) A (getAttrBy? (.ref D) (.str name tk)) Q E s := by
  simp only [readsIn, Bool.and_eq_true, beq_iff_eq] at hr
  obtain ⟨⟨⟨⟨a, b⟩, c'⟩, d⟩, f⟩ := hr
  obtain ⟨hp, g, dr, t, os⟩ := s
  dsimp only at X
  have ho := looks_opaque (M := model prog w) (C := D) X a
  have ht := looks_typeIn (M := model prog w) X b
  have Lg := looks_findIn (M := model prog w) X c'
  unfold getAttrBy? getAttrBy
  refine wpAny_bind (wpAny_attempt (wpAny_holding (wpAny_bind (ht.at (wpAny_bind (Lg.at ?_))))))
  dsimp only
  rw [show (onTheHeap (Value.type "type") && Value.builtin "type.__getattribute__" == Value.builtin "object.__getattribute__") = false from rfl, if_neg (by decide)]
  unfold getAttrByItsOwn hookBefore
  refine wpAny_bind ?_
  rw [if_neg (show ¬ onTheHeap (Value.type "type") = true by decide)]
  refine wpAny_pure (wpAny_bind (wpAny_attempt (wpAny_holding ?_)))
  unfold callGetattribute
  rw [show (false && onTheHeap (Value.builtin "type.__getattribute__")) = false from rfl, if_neg (by decide)]
  unfold boundAndCalled
  rw [KF.slot_tga.bind]
  refine wpAny_bind (wpAny_pure ?_)
  show wpAny _ _ (call (.builtin "type.__getattribute__") [.ref D, .str name tk]) _ _ _
  refine wpAny_call (codeAny_call_builtin KF.slot_tga.plain KF.entry_tga ?_)
  refine @check_slot (model prog w) _ _ ⟨hp, g, dr, t, os⟩ "type.__getattribute__" "type" "__getattribute__" (.ref D) [.str name tk] [] _ (by decide +kernel) (by decide +kernel) (ht.andThen (looks_subIn X f)) (KF.args_tga (.ref D) (.str name tk)) ?_
  refine tga_miss (s := ⟨hp, g, dr, t, os⟩) X ho ht hm (show A.in1.handled = none from hh) fun h' tk' e ne => ?_
  obtain ⟨ob, vs, he, hc, _, _⟩ := ne.there
  have Li := isInst_attr (M := model prog w) he hc
  show wpAny _ _ (getattributeRaised _ _ _ _ _ _ _) _ _ _
  unfold getattributeRaised hookBehind
  refine wpAny_bind (Li.at ?_)
  rw [if_pos rfl, if_neg (show ¬ onTheHeap (Value.type "type") = true by decide), type_hook]
  refine wpAny_bind (wpAny_pure ?_)
  unfold hookOrError attributeErrorLeaves
  dsimp only
  rw [if_pos (show (!false) = true from rfl)]
  refine wpAny_throw ?_
  refine wpAny_bind (Li.at ?_)
  rw [if_pos rfl]
  exact wpAny_pure (h _ _ ne.keeps)
end
end PySem.W

set_option Elab.async false
set_option linter.all false
set_option maxRecDepth 100000
set_option maxHeartbeats 4000000
namespace PySem.W
open PySem PySem.Calls PyProof.Rows Builtin Builtin.ObjectAttr
section
variable {prog : Program} {w : World} {A : Around} {E : Value → Shared → Prop} {s : Shared} {K : Frag} {x y C D L f g : Addr} {h₀ : Heap} {m : Str → Option Value} {ox oy : Obj} {od od' : Option Obj}
theorem inst_keeps {h h' : Heap} (I : InstAt h x ox C od) (k : ∀ b o, h.get? b = some o → h'.get? b = some o) : InstAt h' x ox C od := by
  refine ⟨k _ _ I.at_, I.cls, I.no, ?_⟩
  have := I.dict
  revert this
  cases ox.dict <;> cases od <;> first | exact id | exact fun z => k _ _ z
theorem num_K {M : Model} {h : Heap} {nm : String} (X : K.In h) (hs : findIn K (.ref C) (PySem.dunder nm) = some (some (.ref f))) (hr : findIn K (.ref C) (dunderR nm) = some none) : Looks M h (numberSlotInPython (.ref C) nm) true := by
  intro A Q E s k q
  unfold numberSlotInPython
  refine wpAny_bind (looks_findIn X hs A _ E s k ?_)
  refine wpAny_bind (wpAny_pure ?_)
  refine wpAny_bind (looks_findIn X hr A _ E s k ?_)
  refine wpAny_bind (wpAny_pure ?_)
  rw [if_pos (by rfl)]
  exact wpAny_pure q
theorem reflected_K {nm : String} {Q : Bool → Shared → Prop} (X : K.In s.heap) (hs : findIn K (.ref C) (PySem.dunder nm) = some (some (.ref f))) (hr : findIn K (.ref C) (dunderR nm) = some none) (hs' : findIn K (.ref D) (PySem.dunder nm) = some (some (.ref g))) (hr' : findIn K (.ref D) (dunderR nm) = some none)
    (rd : readsIn K D (.type "type") = true) (ms : missIn K D (.type "type") (dunderR nm) = true) (hl : (dunderR nm).length ≤ sizeLine) (hh : A.handled = none) (h : ∀ h' tk', (∀ b o, s.heap.get? b = some o → h'.get? b = some o) → Q false { s with heap := h', toks := tk' }) :
    wpAny (model prog w) A (reflectedDiffers (.ref C) (.ref D) nm) Q E s := by
  obtain ⟨hp, g0, d, tk, os⟩ := s
  dsimp only at X
  unfold reflectedDiffers
  refine wpAny_bind ((num_K (M := model prog w) X hs hr).at ?_)
  rw [if_neg (by decide)]
  refine wpAny_bind ((num_K (M := model prog w) X hs' hr').at ?_)
  rw [if_neg (by decide)]
  refine wpAny_bind (wpAny_mkStr (wpAny_bind ?_) hl)
  refine getBy_miss (s := ⟨hp, g0, d, tk + 1, os⟩) X rd ms hh fun h' tk' k => ?_
  exact wpAny_pure (h h' tk' k)
theorem binop_two {op : Operator} {Q : Value → Shared → Prop} (F : Fr h₀ L s.heap m) (X₀ : K.In h₀) (I : InstAt s.heap x ox C od) (J : InstAt s.heap y oy D od') (ne : C ≠ D) (hC : selfFirst K C = true) (hD : selfFirst K D = true)
    (hs : findIn K (.ref C) (PySem.dunder op.info.2) = some (some (.ref f))) (hr : findIn K (.ref C) (dunderR op.info.2) = some none) (hs' : findIn K (.ref D) (PySem.dunder op.info.2) = some (some (.ref g))) (hr' : findIn K (.ref D) (dunderR op.info.2) = some none)
    (rd : readsIn K D (.type "type") = true) (ms : missIn K D (.type "type") (dunderR op.info.2) = true) (hl : (dunderR op.info.2).length ≤ sizeLine) (hsub : ∃ sb, subIn K (.ref D) (.ref C) = some sb) (hf : isFn K (.ref f) = true) (hh : A.handled = none)
    (h : ∀ h' tk', (∀ b o, s.heap.get? b = some o → h'.get? b = some o) → wpAny (model prog w) A (call (.ref f) [.ref x, .ref y]) (CmpBack Q) E { s with heap := h', toks := tk' }) : wpAny (model prog w) A (binaryOp op (.ref x) (.ref y)) Q E s := by
  have X := X₀.keeps F.keep
  obtain ⟨sb, hsub⟩ := hsub
  obtain ⟨cd, hcd, hm⟩ := any_some hC
  obtain ⟨rest, hm⟩ : ∃ rest, cd.mro = .ref C :: rest := by
    cases q : cd.mro with
    | nil => rw [q] at hm; cases hm
    | cons a r => rw [q] at hm; exact ⟨r, by rw [List.head?_cons] at hm; cases (beq_iff_eq.mp hm); rfl⟩
  obtain ⟨cd', hcd', hm'⟩ := any_some hD
  obtain ⟨rest', hm'⟩ : ∃ rest, cd'.mro = .ref D :: rest := by
    cases q : cd'.mro with
    | nil => rw [q] at hm'; cases hm'
    | cons a r => rw [q] at hm'; exact ⟨r, by rw [List.head?_cons] at hm'; cases (beq_iff_eq.mp hm'); rfl⟩
  unfold binaryOp
  obtain ⟨⟨sym, nm⟩, hi⟩ : ∃ p, p = op.info := ⟨_, rfl⟩
  rw [← hi] at hs hr hs' hr' ms hl ⊢
  dsimp only at hs hr hs' hr' ms hl ⊢
  refine wpAny_holding (wpAny_bind ?_)
  unfold binaryOp1
  refine wpAny_bind (I.type.here (wpAny_bind (J.type.here (wpAny_bind ((fills_K X hcd hm hs).here ?_)))))
  rw [show (Value.ref C == Value.ref D) = false from by simp [ne]]
  simp only [Bool.false_eq_true, if_false]
  refine wpAny_bind ((fills_K X hcd' hm' hs').here ?_)
  simp only [Bool.and_self, if_true]
  refine wpAny_bind ((looks_subIn X hsub).here ?_)
  have fin : ∀ h' tk', (∀ b o, s.heap.get? b = some o → h'.get? b = some o) → wpAny (model prog w) A (tryMethod (.ref x) (PySem.dunder nm) (.ref y)) (fun r s' => ∃ v, r = some v ∧ Q v s') E { s with heap := h', toks := tk' } := fun h' tk' k => by
    unfold tryMethod
    refine wpAny_bind (special_fn (s := { s with heap := h', toks := tk' }) (X.keeps k) (inst_keeps I k) hs (beq_iff_eq.mp hf) (wpAny_mono (h h' tk' k) (fun v s' hv => ?_) fun _ _ e => e))
    cases v <;> first | exact hv.elim | exact wpAny_pure ⟨_, rfl, hv⟩
  cases sb
  · simp only [Bool.false_eq_true, if_false, Bool.not_false, Bool.and_self, if_true]
    refine wpAny_bind ((num_K (M := model prog w) X hs hr).here ?_)
    rw [if_pos rfl]
    refine wpAny_bind ((num_K (M := model prog w) X hs' hr').here ?_)
    rw [if_neg (by decide)]
    refine wpAny_bind (wpAny_mono (fin _ _ fun _ _ z => z) (fun r s' z => ?_) fun _ _ e => e)
    obtain ⟨v, rfl, hq⟩ := z
    exact wpAny_pure (wpAny_pure hq)
  · simp only [if_true]
    refine wpAny_bind (reflected_K X hs hr hs' hr' rd ms hl hh fun h' tk' k => ?_)
    simp only [Bool.false_eq_true, if_false, Bool.not_false, Bool.and_self, if_true]
    refine wpAny_bind ((num_K (M := model prog w) (X.keeps k) hs hr).here ?_)
    rw [if_pos rfl]
    refine wpAny_bind ((num_K (M := model prog w) (X.keeps k) hs' hr').here ?_)
    rw [if_neg (by decide)]
    refine wpAny_bind (wpAny_mono (fin h' tk' k) (fun r s' z => ?_) fun _ _ e => e)
    obtain ⟨v, rfl, hq⟩ := z
    exact wpAny_pure (wpAny_pure hq)

/-- x != b by the own __eq__ of x's class, through object.__ne__ -/
theorem ne_K {b tb : Value} {Q : Value → Shared → Prop} (hu : A.units + 1 < cLine) (Fz : Fr h₀ L s.heap m) (X₀ : K.In h₀) (I : InstAt s.heap x ox C od) (hb : Looks (model prog w) s.heap (typeOf b) tb) (hn : notFirst K C tb = true)
    (hne : findIn K (.ref C) "__ne__" = some (some (.builtin "object.__ne__"))) (ho : subIn K (.ref C) (.type "object") = some true) (hs : findIn K (.ref C) "__eq__" = some (some (.ref f))) (hf : isFn K (.ref f) = true)
    (h : wpAny (model prog w) A.in1 (call (.ref f) [.ref x, b]) (fun v s' => ∃ r, v = .bool r ∧ Q (.bool (!r)) s') E s) : wpAny (model prog w) A (richCompare .NotEq (.ref x) b) Q E s := by
  have X := X₀.keeps Fz.keep
  have body : wpAny (model prog w) A.in1 (Builtin.«object.__ne__» ⟨[.ref x, b], []⟩) (fun fin s' => ∃ r, fin = .done (.ret (.bool (!r))) ∧ Q (.bool (!r)) s') E s := by
    unfold Builtin.«object.__ne__»
    refine wpAny_bind (wpAny_of_eq (a := ((Value.ref x : Value), [b])) (by first | rfl | (simp only [slotArgs]; rfl)) ?_)
    refine wpAny_bind (wpAny_cRoomFor (show A.in1.units < cLine from hu) ?_)
    refine wpAny_bind (ifBound_K X I hs hf (wpAny_mono h (fun v s' hv => ?_) fun _ _ e => e))
    obtain ⟨r, rfl, hq⟩ := hv
    exact wpAny_bind (wpAny_truthy_bool (wpAny_pure ⟨r, rfl, hq⟩))
  have called : wpAny (model prog w) A (call (.builtin "object.__ne__") [.ref x, b]) (fun v s' => ∃ r, v = .bool (!r) ∧ Q (.bool (!r)) s') E s := by
    refine wpAny_call (codeAny_call_builtin F.cmp_object.ne.plain F.cmpEntry_ne ?_)
    refine @check_slot (model prog w) _ _ s "object.__ne__" "object" "__ne__" (.ref x) [b] [] _ F.cmpKind_ne F.cmpSplit_ne (I.type.andThen (looks_subIn X ho)) (F.cmpArgs_ne _ _) ?_
    refine wpAny_mono body (fun fin s' z => ?_) fun _ _ e => e
    obtain ⟨r, rfl, hq⟩ := z
    exact ⟨r, rfl, hq⟩
  have one : wpAny (model prog w) A (tryCompare (.ref x) "__ne__" b) (fun r s' => ∃ v, r = some v ∧ Q v s') E s := by
    unfold tryCompare
    refine wpAny_bind ?_
    simp only [callSpecialIfBound?, bindSpecialIfBound?]
    refine wpAny_holding (wpAny_bind (wpAny_bind (wpAny_bind (I.type.here ((looks_findIn X hne).here ?_)))))
    simp only [F.cmp_object.ne.bind]
    have fin : wpAny (model prog w) A (call (.builtin "object.__ne__") ([.ref x] ++ [b]) >>= fun v => pure (some v)) (fun r s' => wpAny (model prog w) A (match r with | some .notImplemented | none => pure none | some v => pure (some v)) (fun r s' => ∃ v, r = some v ∧ Q v s') E s') E s :=
      wpAny_bind (wpAny_mono called (fun v s' z => by
        obtain ⟨r, rfl, hq⟩ := z
        exact wpAny_pure (wpAny_pure ⟨_, rfl, hq⟩)) fun _ _ e => e)
    refine wpAny_bind (wpAny_askSetting (wpAny_ite ?_))
    split
    · exact wpAny_bind (wpAny_pure (wpAny_pure fin))
    · exact wpAny_tryCatch (wpAny_bind (wpAny_pure (wpAny_pure fin)))
  unfold richCompare
  simp only [oneThing_ref]
  refine wpAny_holding (wpAny_bind (wpAny_cRoomFor (Nat.lt_of_succ_lt hu) ?_))
  refine wpAny_bind (I.type.here (wpAny_bind (hb.here ?_)))
  split
  · rename_i q
    have e : subIn K tb (.ref C) = some false := by
      rcases Bool.or_eq_true_iff.mp hn with e | e
      · rw [beq_iff_eq.mp e] at q; simp at q
      · exact beq_iff_eq.mp e
    refine wpAny_bind ((looks_subIn X e).here ?_)
    simp only [Bool.false_eq_true, if_false]
    refine wpAny_bind (wpAny_mono one (fun r s' z => ?_) fun _ _ e => e)
    obtain ⟨v, rfl, hq⟩ := z
    exact wpAny_pure hq
  · refine wpAny_bind (wpAny_pure ?_)
    simp only [Bool.false_eq_true, if_false]
    refine wpAny_bind (wpAny_mono one (fun r s' z => ?_) fun _ _ e => e)
    obtain ⟨v, rfl, hq⟩ := z
    exact wpAny_pure hq
end
end PySem.W

set_option Elab.async false
set_option linter.all false
set_option maxRecDepth 100000
set_option maxHeartbeats 4000000
namespace Nb
open PySem PySem.Spec PyProof.Rows
open L2 hiding del del_ne del_same
section
variable {X : Cx} {CX : CXT} {n : Nat} {ps : List Str} {sp : Sp} {E : XK}
/-- x != y by the own __eq__ of x's class -/
def rNeO (C : Addr) (sp : Sp) (E : XK) (K : PySem.W.Frag) : R2 := fun x y H Q => ∃ a b dx fs D dy gs, x = .ref a ∧ y = .ref b ∧ H a = some (.ins C dx fs) ∧ H b = some (.ins D dy gs) ∧ PySem.W.notFirst K C (.ref D) = true ∧
  sp [.ref a, .ref b] H (fun v H' => ∃ c, v = .bl c ∧ Q (.bl (!c)) H') E
/-- what != asks of a class with an own __eq__ -/
structure NeC (K : PySem.W.Frag) (C : Addr) : Prop where
  ne : PySem.W.findIn K (.ref C) "__ne__" = some (some (.builtin "object.__ne__"))
  ob : PySem.W.subIn K (.ref C) (.type "object") = some true
theorem op_neO {C : Addr} (O : Om X CX n C "__eq__" ps sp) (N : NeC X.K C) (hr : Room (n + 1) X.A) (hu : X.A.units + 1 < cLine) (hx : Passes CX X E) : OpR X (compareOp .NotEq) (rNeO C sp E X.K) := by
  intro pins s σ H x y v u Q I rx ry hq
  obtain ⟨a, b, dx, fs, D, dy, gs, rfl, rfl, ha, hb', nf, h⟩ := hq
  obtain ⟨f, fd, hs, hf, hbn, F⟩ := O.ex
  cases rx
  cases ry
  obtain ⟨mA, J, _⟩ := ins_get I.hok ha
  obtain ⟨mB, J', _⟩ := ins_get I.hok hb'
  obtain ⟨od, J, _⟩ := J.look
  obtain ⟨od', J', _⟩ := J'.look
  obtain ⟨m, hF⟩ := I.fr
  show wpAny (model X.prog X.w) X.A (richCompare .NotEq (.ref a) (.ref b)) (EP X pins σ Q) X.xe s
  refine PySem.W.ne_K (tb := .ref D) hu hF I.ok.mod.kin J J'.type nf N.ne N.ob hs hf ?_
  refine wpAny_mono (own_run (vs := [.ref a, .ref b]) F hbn hx (L2.Sub.in1 ⟨hr, rfl⟩) I (.cons rfl (.cons rfl .nil)) h) (fun r s' z => ?_) fun _ _ e => e
  obtain ⟨v, H', I', rz, c, ez, q⟩ := z
  subst ez
  cases rz
  exact ⟨c, rfl, .bl (!c), H', I', rfl, q⟩
/-- what x + y asks of some classes, each with an own __add__ -/
structure Bo (K : PySem.W.Frag) (cs : List Addr) : Prop where
  sf : ∀ C ∈ cs, PySem.W.selfFirst K C = true
  no : ∀ C ∈ cs, PySem.W.findIn K (.ref C) "__radd__" = some none
  rd : ∀ C ∈ cs, PySem.W.readsIn K C (.type "type") = true
  ms : ∀ C ∈ cs, PySem.W.missIn K C (.type "type") "__radd__" = true
  sub : ∀ C ∈ cs, ∀ D ∈ cs, ∃ b, PySem.W.subIn K (.ref D) (.ref C) = some b
def boB (K : PySem.W.Frag) (cs : List Addr) : Bool := cs.all fun C => PySem.W.selfFirst K C && (PySem.W.findIn K (.ref C) "__radd__" == some none && (PySem.W.readsIn K C (.type "type") && (PySem.W.missIn K C (.type "type") "__radd__" && cs.all fun D => (PySem.W.subIn K (.ref D) (.ref C)).isSome)))
theorem bo_of {K : PySem.W.Frag} {cs : List Addr} (h : boB K cs = true) : Bo K cs := by
  unfold boB at h
  simp only [List.all_eq_true, Bool.and_eq_true, beq_iff_eq] at h
  exact ⟨fun C m => (h C m).1, fun C m => (h C m).2.1, fun C m => (h C m).2.2.1, fun C m => (h C m).2.2.2.1, fun C m D m' => Option.isSome_iff_exists.mp ((h C m).2.2.2.2 D m')⟩
def rAddO (cs : List Addr) (sp : Sp) (E : XK) : R2 := fun x y H Q => ∃ a b C dx fs D dy gs, x = .ref a ∧ y = .ref b ∧ C ∈ cs ∧ D ∈ cs ∧ H a = some (.ins C dx fs) ∧ H b = some (.ins D dy gs) ∧ sp [.ref a, .ref b] H Q E
theorem op_addO {cs : List Addr} (B : Bo X.K cs) (O : ∀ C ∈ cs, Om X CX n C "__add__" ps sp) (hr : Room n X.A) (hx : Passes CX X E) (cl : X.calm = true := by rfl) : OpR X (binaryOp .Add) (rAddO cs sp E) := by
  intro pins s σ H x y v u Q I rx ry hq
  obtain ⟨a, b, C, dx, fs, D, dy, gs, rfl, rfl, mC, mD, ha, hb', h⟩ := hq
  obtain ⟨f, fd, hs, hf, hbn, F⟩ := (O C mC).ex
  obtain ⟨f', fd', hs', hf', _, _⟩ := (O D mD).ex
  cases rx
  cases ry
  obtain ⟨mA, J, _⟩ := ins_get I.hok ha
  obtain ⟨mB, J', _⟩ := ins_get I.hok hb'
  obtain ⟨od, J, _⟩ := J.look
  obtain ⟨od', J', _⟩ := J'.look
  obtain ⟨m, hF⟩ := I.fr
  have go : ∀ s', Inv X pins σ H s' → wpAny (model X.prog X.w) X.A (call (.ref f) [.ref a, .ref b]) (PySem.W.CmpBack (EP X pins σ Q)) X.xe s' := fun s' I' =>
    wpAny_mono (own_run (vs := [.ref a, .ref b]) F hbn hx ⟨hr, rfl⟩ I' (.cons rfl (.cons rfl .nil)) h) (fun r s' z => by
      obtain ⟨v, H', I2, rz, q⟩ := z
      exact SlX.cmpback rz ⟨v, H', I2, rz, q⟩) fun _ _ e => e
  show wpAny (model X.prog X.w) X.A (binaryOp .Add (.ref a) (.ref b)) (EP X pins σ Q) X.xe s
  by_cases ne : C = D
  · subst ne
    exact PySem.W.binop_K hF I.ok.mod.kin J J'.type (B.sf C mC) hs hf (go s I)
  · exact PySem.W.binop_two hF I.ok.mod.kin J J' ne (B.sf C mC) (B.sf D mD) hs (B.no C mC) hs' (B.no D mD) (B.rd D mD) (B.ms D mD) (by decide +kernel) (B.sub C mC D mD) hf (I.ok.hd cl) fun h' tk' k => go _ (I.kept (t' := tk') k)

/-- an own def, called from within a builtin; what it may let out hangs on the slots -/
theorem own_runS {W : L2.St → XK} {pins : List (Addr × Obj)} {σ : L2.St} {H : Hp} {s : Shared} {Q : VK} {vs : List V} {us : List Value} {A : Around} {f : Addr} {fd : FuncData} (F : FnOk X.prog X.w X.K X.mg X.base CX n f fd ps sp) (hb : Binds X.K fd ps []) (hx : PassesAt CX X σ (W σ)) (sb : L2.Sub X n A) (I : Inv X pins σ H s) (r : Vals vs us) (hsp : sp vs H Q (W σ)) :
    wpAny (model X.prog X.w) A (call (.ref f) us) (EP X pins σ Q) X.xe s := by
  have e0 : Env0 X.prog X.w X.K X.mg X.base A X.stack s H := by
    have e := I.env0
    exact ⟨by rw [sb.fr]; exact e.frames, e.mod, e.bs, e.bsz, e.funs, e.frf, e.hok, e.bare⟩
  have hl := F.len _ _ _ _ hsp
  have hl2 : us.length = ps.length := by rw [← r.length]; exact hl
  refine wpAny_call (codeAny_mono (F.run A X.stack s H ⟨us, []⟩ us vs _ (W σ) sb.room e0 (by
    have := hb s us I.kIn (by simpa using hl2)
    simpa using this) r hsp) fun r s' hq => ?_)
  cases r with
  | error e => exact hx pins H s e s' I hq
  | ok fl =>
    cases fl with
    | ret w => exact I.after hq
    | next => exact False.elim hq
    | brk => exact False.elim hq
    | cont => exact False.elim hq
theorem pe_addS {W : L2.St → XK} {cs : List Addr} {ta tb : TE} {e1 e2 : Expr} {pos : Pos} (B : Bo X.K cs) (O : ∀ C ∈ cs, Om X CX n C "__add__" ps sp) (hr : Room n X.A) (hx : ∀ σ, PassesAt CX X σ (W σ)) (ha : PE X e1 ta) (hb : PE X e2 tb) (cl : X.calm = true := by rfl) :
    PE X (.BinOp e1 .Add e2 pos) (fun σ H Q => ta σ H fun x H1 => tb σ H1 fun y H2 => rAddO cs sp (W σ) x y H2 Q) := by
  refine ⟨fun pins s σ H Q I h => ?_⟩
  refine wpAny_BinOp (binT ha hb I h fun v u s2 x y H2 I rx ry hq => ?_)
  obtain ⟨a, b, C, dx, fs, D, dy, gs, rfl, rfl, mC, mD, ha, hb', h⟩ := hq
  obtain ⟨f, fd, hs, hf, hbn, F⟩ := (O C mC).ex
  obtain ⟨f', fd', hs', hf', _, _⟩ := (O D mD).ex
  cases rx
  cases ry
  obtain ⟨mA, J, _⟩ := ins_get I.hok ha
  obtain ⟨mB, J', _⟩ := ins_get I.hok hb'
  obtain ⟨od, J, _⟩ := J.look
  obtain ⟨od', J', _⟩ := J'.look
  obtain ⟨m, hF⟩ := I.fr
  have go : ∀ s', Inv X pins σ H2 s' → wpAny (model X.prog X.w) X.A (call (.ref f) [.ref a, .ref b]) (PySem.W.CmpBack (EP X pins σ Q)) X.xe s' := fun s' I' =>
    wpAny_mono (own_runS (vs := [.ref a, .ref b]) F hbn (hx σ) ⟨hr, rfl⟩ I' (.cons rfl (.cons rfl .nil)) h) (fun r s' z => by
      obtain ⟨v, H', I2, rz, q⟩ := z
      exact SlX.cmpback rz ⟨v, H', I2, rz, q⟩) fun _ _ e => e
  by_cases ne : C = D
  · subst ne
    exact PySem.W.binop_K hF I.ok.mod.kin J J'.type (B.sf C mC) hs hf (go _ I)
  · exact PySem.W.binop_two hF I.ok.mod.kin J J' ne (B.sf C mC) (B.sf D mD) hs (B.no C mC) hs' (B.no D mD) (B.rd D mD) (B.ms D mD) (by decide +kernel) (B.sub C mC D mD) hf (I.ok.hd cl) fun h' tk' k => go _ (I.kept (t' := tk') k)
/-- a call that lets nothing out -/
theorem pass_none : Passes (L2.CX X.prog X.w) X (fun _ _ _ => False) := fun pins σ H s e s' I c => by
  obtain ⟨a, B, sI, ps', σ1, H1, cls, d, _, _, _, _, _, _, _, _, w⟩ := XE.of_call (W := fun _ _ _ _ => False) I (fun _ _ _ h => h) c
  exact w.elim
theorem passAt_none (σ : L2.St) : PassesAt (L2.CX X.prog X.w) X σ (fun _ _ _ => False) := fun pins H s e s' I c => pass_none pins σ H s e s' I c
end
end Nb

set_option Elab.async false
set_option linter.all false
set_option maxRecDepth 100000
set_option maxHeartbeats 4000000
namespace K23
open PySem Nb
open L2 hiding del del_ne del_same
def topS (i : Nat) : Stmt := PySem.Challenge.pw_nextbehind_k23_chains_added.main.body.getD i (.Pass ⟨0, 0, 0, 0⟩)
def clsAt (s : Stmt) (j : Nat) : Stmt := match s with
  | .ClassDef _ _ _ body _ _ _ _ _ _ _ => body.getD j (.Pass ⟨0, 0, 0, 0⟩)
  | _ => .Pass ⟨0, 0, 0, 0⟩
structure Txt (mg : Str → Option Value) : Prop where
  len : mg "len" = none
  isinstance : mg "isinstance" = none
  type : mg "type" = none
  tuple : mg "tuple" = none
  range : mg "range" = none
  max : mg "max" = none
  min : mg "min" = none
  ValueError : mg "ValueError" = none
abbrev St3 := PySem.Str × PySem.Str × PySem.Str
abbrev tup3 (s : St3) : HO := .tup [.str s.1, .str s.2.1, .str s.2.2]
def stD (s : St3) : PyData := .tuple [.str s.1, .str s.2.1, .str s.2.2]
def stsD (ss : List St3) : PyData := .tuple (ss.map stD)
def Ok3 (ss : List St3) : Prop := ∀ s ∈ ss, PyData.strOk s.1 = true ∧ PyData.strOk s.2.1 = true ∧ PyData.strOk s.2.2 = true
/-- the steps ss, a tuple at t -/
def StepsAt (H : Hp) (t : Addr) (ss : List St3) : Prop := ∃ as : List Addr, H t = some (.tup (as.map V.ref)) ∧ F2 (fun a s => H a = some (tup3 s)) as ss
theorem steps_same {H H' : Hp} {t : Addr} {ss : List St3} (s : Same H H') (h : StepsAt H t ss) : StepsAt H' t ss := let ⟨as, e, f⟩ := h; ⟨as, s _ _ e, f2_imp (fun _ _ k => s _ _ k) f⟩
/-- a reason of one of the classes cs, with the steps ss -/
def Rs (cs : List Addr) (H : Hp) (a : Addr) (ss : List St3) : Prop := ∃ (C dx t : Addr) (fs : List (PySem.Str × V)), C ∈ cs ∧ H a = some (.ins C dx fs) ∧ fs.lookup ("steps" : PySem.Str) = some (V.ref t) ∧ StepsAt H t ss
theorem rs_same {cs : List Addr} {H H' : Hp} {a : Addr} {ss : List St3} (s : Same H H') (h : Rs cs H a ss) : Rs cs H' a ss := let ⟨C, dx, t, fs, m, e, l, k⟩ := h; ⟨C, dx, t, fs, m, s _ _ e, l, steps_same s k⟩
def fits (ss us : List St3) : Bool := match ss.getLast?, us.head? with
  | some s, some u => decide (s.2.1 = u.1)
  | _, _ => false
def spInit1 (C : Addr) : Sp := fun vs H Q _ => ∃ (m dx : Addr) (v : V), vs = [.ref m, v] ∧ H m = some (.ins C dx []) ∧ Q .non (upd H m (.ins C dx [("steps", v)]))
def spInit2 (C : Addr) : Sp := fun vs H Q _ => ∃ (m dx : Addr) (v w : V), vs = [.ref m, v, w] ∧ H m = some (.ins C dx []) ∧ Q .non (upd (upd H m (.ins C dx [("steps", v)])) m (.ins C dx [("steps", v), ("name", w)]))
def spLen (cs : List Addr) : Sp := fun vs H Q _ => ∃ (a : Addr) (ss : List St3), vs = [.ref a] ∧ Rs cs H a ss ∧ Q (.int ss.length) H
def ChainAt (C : Addr) (H : Hp) (a : Addr) (ss : List St3) : Prop := ∃ dx t, H a = some (.ins C dx [("steps", .ref t)]) ∧ StepsAt H t ss
theorem chain_same {C : Addr} {H H' : Hp} {a : Addr} {ss : List St3} (s : Same H H') (h : ChainAt C H a ss) : ChainAt C H' a ss := let ⟨dx, t, e, k⟩ := h; ⟨dx, t, s _ _ e, steps_same s k⟩
theorem chain_rs {C : Addr} {cs : List Addr} {H : Hp} {a : Addr} {ss : List St3} (m : C ∈ cs) (h : ChainAt C H a ss) : Rs cs H a ss := let ⟨dx, t, e, k⟩ := h; ⟨C, dx, t, _, m, e, rfl, k⟩
def spEq (C : Addr) : Sp := fun vs H Q _ => ∃ (a b : Addr) (ss us : List St3), vs = [.ref a, .ref b] ∧ ChainAt C H a ss ∧ ChainAt C H b us ∧ Ok3 ss ∧ Ok3 us ∧ Q (.bl (PyData.eqv (stsD ss) (stsD us))) H
def spJoin (cs : List Addr) (CB : Addr) : Sp := fun vs H Q E => ∃ (a b : Addr) (ss us : List St3), vs = [.ref a, .ref b] ∧ Rs cs H a ss ∧ Rs cs H b us ∧ ss.length ≤ 1000 ∧ us.length ≤ 1000 ∧
  (fits ss us = true → ∀ H' t, Same H H' → StepsAt H' t (ss ++ us) → Q (.ref t) H') ∧ (fits ss us = false → ∀ H' dd v, Same H H' → H' dd = some (.xd [("reason", v)]) → E (.ref CB) (some dd) H')
def spAdd (cs : List Addr) (CC CB : Addr) : Sp := fun vs H Q E => ∃ (a b : Addr) (ss us : List St3), vs = [.ref a, .ref b] ∧ Rs cs H a ss ∧ Rs cs H b us ∧ ss.length ≤ 1000 ∧ us.length ≤ 1000 ∧
  (fits ss us = true → ∀ H' r, Same H H' → ChainAt CC H' r (ss ++ us) → Q (.ref r) H') ∧ (fits ss us = false → ∀ H' dd v, Same H H' → H' dd = some (.xd [("reason", v)]) → E (.ref CB) (some dd) H')
theorem f2_last {α β : Type} {R : α → β → Prop} : ∀ {ys : List β} {xs : List α} {y : β}, F2 R xs (ys ++ [y]) → ∃ xi x, xs = xi ++ [x] ∧ F2 R xi ys ∧ R x y
  | [], _, _, .cons h .nil => ⟨[], _, rfl, .nil, h⟩
  | _ :: ys, _, _, .cons (x := x) h f => let ⟨xi, z, e, g, k⟩ := f2_last f; ⟨x :: xi, z, by rw [e]; rfl, .cons h g, k⟩
theorem f2_app {α β : Type} {R : α → β → Prop} : ∀ {xs : List α} {ys : List β} {us : List α} {vs : List β}, F2 R xs ys → F2 R us vs → F2 R (xs ++ us) (ys ++ vs)
  | _, _, _, _, .nil, g => g
  | _, _, _, _, .cons h f, g => .cons h (f2_app f g)
theorem iteF0 {b : Bool} {p q : Prop} (e : b = false) (h : q) : if b = true then p else q := by
  rw [e]
  exact iteF h
theorem dp_steps {K : PySem.W.Frag} {H : Hp} {t : Addr} {ss : List St3} (h : StepsAt H t ss) : Dp K H (.ref t) (stsD ss) := by
  obtain ⟨as, e, f⟩ := h
  refine .tup (SqT.of e) ?_
  clear e
  induction f with
  | nil => exact .nil
  | cons k _ ih => exact .cons (.tup (SqT.of k) (.cons (.str _) (.cons (.str _) (.cons (.str _) .nil)))) ih
theorem fine_steps {ss : List St3} (h : Ok3 ss) : Fine 2 (stsD ss) := fine_tup fun d hd => by
  obtain ⟨s, hs, rfl⟩ := List.mem_map.mp hd
  obtain ⟨k1, k2, k3⟩ := h s hs
  refine fine_tup fun d hd => ?_
  simp only [List.mem_cons, List.not_mem_nil, or_false] at hd
  rcases hd with rfl | rfl | rfl
  · exact fine_str k1
  · exact fine_str k2
  · exact fine_str k3
theorem iteT0 {b : Bool} {p q : Prop} (e : b = true) (h : p) : if b = true then p else q := by
  rw [e]
  exact iteT h
theorem mem3 {a b c : Addr} {p : Addr → Prop} (h1 : p a) (h2 : p b) (h3 : p c) : ∀ x ∈ [a, b, c], p x := fun x h => by
  rcases List.mem_cons.mp h with h | h
  · exact h ▸ h1
  rcases List.mem_cons.mp h with h | h
  · exact h ▸ h2
  · exact (List.mem_singleton.mp h) ▸ h3
section
variable {P : Program} {w : World} {K : PySem.W.Frag} {mg : Str → Option Value} {base : Heap}
abbrev s_h_source : Stmt := topS 11
theorem sc_h_source : FnScope ["_law_script", "_law_k", "_law_cell"] ["_law_script", "_law_k"] (defScope s_h_source) := ⟨rfl, rfl, rfl, by decide +kernel, rfl, by decide +kernel, by decide +kernel⟩
theorem ok_h_source {f : Addr} {fd : FuncData} (F : Fun K "_law_source" "_law_source" s_h_source f fd) (T : Txt mg) : FnOk P w K mg base CX0 1 f fd ["_law_script", "_law_k"] (spSource K) := by
  refine F.ok sc_h_source (fun vs H Q E h => ?_) (fun cdv A outer s H vs Q E hr h => ?_)
  · obtain ⟨a, ns, k, rfl, _⟩ := h
    rfl
  · obtain ⟨a, ns, k, rfl, hS, hlen, hk, q⟩ := h
    refine ⟨_, pss_cons (ps_set (i := 2) sc_h_source.nd rfl (Or.inl rfl) (pe_ifExp (pt_cmpR (op_neD hr.units) (pv 0) (pe_lst pa_nil) (nomark _)) (pe_ix ix_list (pv 0) (pe_op op_modN (pv 1) (pe_callB call_len_seq (by rfl) T.len PySem.boot_len (pa_cons (pv 0) pa_nil))) (fun _ _ => rfl)) pe_int))
        (pss_one (ps_ret (pe_lst (pa_cons (pv 2) (pa_cons (pe_op op_mul pe_int (pv 1)) (pa_cons (pe_ifExp (pt_cmpR op_ge (pv 2) (pe_op op_pow pe_int pe_int) (nomark _)) (pe_op op_fdivW (pv 2) (pe_op op_pow pe_int pe_int)) pe_int) pa_nil)))))), ?_⟩
    refine ⟨_, rfl, Nat.zero_le _, fun l hl => ?_⟩
    have s1 : Same H (upd H l (.lst [])) := same_new hl
    refine ⟨.list (ns.map PyData.int), .list [], .lst (s1.seq hS) (dp_ints ns), .lst (SqL.of upd_same) .nil, (fine_ints ns).shaped (by decide), by decide, _, rfl, ?_⟩

    rw [eqv_nil]
    cases ns with
    | nil =>
      refine iteF ?_
      refine ⟨_, rfl, _, rfl, _, _, rfl, rfl, .inl (by decide), _, rfl, _, _, rfl, rfl, ⟨by decide, by decide, by decide⟩, _, _, rfl, rfl, _, rfl, ?_⟩
      refine iteF ⟨(by show 3 ≤ sizeLine; decide), fun p hp => ?_⟩
      have s2 := s1.trans (same_new (o := .lst [.int 1, .int (3 * (k : Int)), .int 0]) hp)
      exact q _ p s2 (s1.free hp) ⟨1, 3 * (k : Int), 0, upd_same, by omega, by omega⟩
    | cons n ns =>
      refine iteT ?_
      have hl2 : ((k : Int).fmod ((((n :: ns).map V.int).length : Nat) : Int)) < (((n :: ns).map V.int).length : Nat) ∧ 0 ≤ (k : Int).fmod ((((n :: ns).map V.int).length : Nat) : Int) :=
        ⟨(fmod_pos _ (by simp; omega)).2, (fmod_pos _ (by simp; omega)).1⟩
      obtain ⟨j, hj⟩ : ∃ j : Nat, (k : Int).fmod ((((n :: ns).map V.int).length : Nat) : Int) = (j : Int) := ⟨_, (Int.toNat_of_nonneg hl2.2).symm⟩
      have hjl : j < (n :: ns).length := by
        have h1 := hl2.1
        rw [hj] at h1
        simp at h1 ⊢
        omega
      refine ⟨_, rfl, _, rfl, _, rfl, a, _, rfl, .inl (s1.seq hS), _, _, rfl, rfl, (by simp; omega), a, _, _, .int (n :: ns)[j], rfl, rfl, s1.seq hS, ?_, ?_⟩
      · rw [hj]
        refine atI_nat ?_
        rw [List.getElem?_map, List.getElem?_eq_getElem hjl]
        rfl
      · refine ⟨_, rfl, _, rfl, _, _, rfl, rfl, .inl (by decide), _, rfl, _, _, rfl, rfl, ⟨by decide, by decide, by decide⟩, _, _, rfl, rfl, _, rfl, ?_⟩
        refine ite2 (fun _ => ?_) (fun _ => ?_)
        · refine ⟨_, rfl, _, _, rfl, rfl, ⟨by decide, by decide, by decide⟩, _, _, rfl, rfl, wide_div (b := 70) (by decide) (by decide) (by decide) (by decide), (by show 3 ≤ sizeLine; decide), fun p hp => ?_⟩
          exact q _ p (s1.trans (same_new hp)) (s1.free hp) ⟨_, 3 * (k : Int), _, upd_same, by omega, by omega⟩
        · refine ⟨(by show 3 ≤ sizeLine; decide), fun p hp => ?_⟩
          exact q _ p (s1.trans (same_new hp)) (s1.free hp) ⟨_, 3 * (k : Int), _, upd_same, by omega, by omega⟩
abbrev s_h_next : Stmt := topS 12
theorem sc_h_next : FnScope ["_law_source_here", "_law_many", "_law_found", "_law_primes", "_law_prime"] ["_law_source_here", "_law_many"] (defScope s_h_next) := ⟨rfl, rfl, rfl, by decide +kernel, rfl, by decide +kernel, by decide +kernel⟩
theorem ok_h_next {f : Addr} {fd : FuncData} (F : Fun K "_law_next" "_law_next" s_h_next f fd) (T : Txt mg) : FnOk P w K mg base CX0 1 f fd ["_law_source_here", "_law_many"] (spNext) := by
  refine F.ok sc_h_next (fun vs H Q E h => ?_) (fun cdv A outer s H vs Q E hr h => ?_)
  · obtain ⟨p, m, b, G, rfl, _⟩ := h
    rfl
  · obtain ⟨p, m, b, G, rfl, m1, m2, ⟨c, n, r, hp, hn, hb⟩, hB, hG, hs, q⟩ := h
    refine ⟨_, pss_cons (ps_if (pt_cmpR op_gt (pe_ix ix_list (pv 0) pe_int (fun _ _ => rfl)) pe_int (nomark _)) (pss_cons (ps_set (i := 2) sc_h_next.nd rfl (Or.inl rfl) (pe_op op_modN (pe_ix ix_list (pv 0) pe_int (fun _ _ => rfl)) (pv 1)))
        (pss_cons (ps_asg (pe_op op_fdivN (pe_ix ix_list (pv 0) pe_int (fun _ _ => rfl)) (pv 1)) (pg_sub (pv 0) pe_int set_list))
        (pss_one (ps_ret (pv 2))))) pss_nil)
        (pss_cons (ps_asg (pe_op op_add (pe_ix ix_list (pv 0) pe_int (fun _ _ => rfl)) pe_int) (pg_sub (pv 0) pe_int set_list))
        (pss_cons (ps_set (i := 3) sc_h_next.nd rfl (Or.inl rfl) (pe_lst (pa_cons pe_int (pa_cons pe_int (pa_cons pe_int (pa_cons pe_int (pa_cons pe_int (pa_cons pe_int (pa_cons pe_int (pa_cons pe_int pa_nil))))))))))
        (pss_cons (ps_set (i := 4) sc_h_next.nd rfl (Or.inl rfl) (pe_ix ix_list (pe_op op_cat (pv 3) (pe_lst (pa_cons pe_int (pa_cons pe_int (pa_cons pe_int pa_nil))))) (pe_op op_modN (pe_ix ix_list (pv 0) pe_int (fun _ _ => rfl)) pe_int) (fun _ _ => rfl)))
        (pss_one (ps_ret (pe_op op_modN (pe_op op_fdivN (pe_op op_modN (pe_op op_pow (pe_op op_add (pe_op op_add (pe_op op_modN (pe_ix ix_list (pv 0) pe_int (fun _ _ => rfl)) (pv 4)) (pe_op op_mul pe_int (pe_ix ix_list (pv 0) pe_int (fun _ _ => rfl)))) pe_int) pe_int) (pv 4)) pe_int) (pv 1))))))), ?_⟩
    refine ⟨_, rfl, p, _, _, _, rfl, rfl, SqL.of hp, atI_nat (j := 2) rfl, _, _, rfl, rfl, _, rfl, ?_⟩
    refine ite2 (fun _ => ?_) (fun _ => ?_)
    · refine ⟨_, rfl, p, _, _, _, rfl, rfl, SqL.of hp, atI_nat (j := 2) rfl, _, rfl, _, _, rfl, rfl, (by omega), ?_⟩
      refine ⟨_, rfl, p, _, _, _, rfl, rfl, SqL.of hp, atI_nat (j := 2) rfl, _, rfl, _, _, rfl, rfl, ⟨by omega, by omega⟩, _, rfl, p, _, _, 2, rfl, rfl, hp, rfl, _, rfl, ?_⟩
      have f1 := fmod_pos r m1
      exact q _ _ f1.1 f1.2 (same_at hs hG) ⟨c, n, _, upd_same, hn, by omega⟩
    · refine ⟨_, rfl, p, _, _, _, rfl, rfl, SqL.of hp, atI_nat (j := 1) rfl, _, _, rfl, rfl, _, rfl, p, _, _, 1, rfl, rfl, hp, rfl, ?_⟩
      refine ⟨(by show 8 ≤ sizeLine; decide), fun l1 hl1 => ?_⟩
      have npl1 : p ≠ l1 := ne_of_none upd_same hl1
      have hp1 : (upd (upd H p (.lst [.int c, .int (n + 1), .int r])) l1 (.lst ((primes.take 8).map V.int))) p = some (.lst [.int c, .int (n + 1), .int r]) := by
        rw [upd_ne npl1]
        exact upd_same
      refine ⟨_, rfl, (by show 3 ≤ sizeLine; decide), fun l2 hl2 => ?_⟩
      have npl2 : p ≠ l2 := ne_of_none hp1 hl2
      have nl12 : l1 ≠ l2 := ne_of_none upd_same hl2
      refine ⟨l1, l2, _, _, rfl, rfl, (by rw [upd_ne nl12]; exact upd_same), upd_same, (by show 8 + 3 ≤ sizeLine; decide), fun l3 hl3 => ?_⟩
      have hp2 : ∀ o2 : HO, (upd (upd (upd H p (.lst [.int c, .int (n + 1), .int r])) l1 (.lst ((primes.take 8).map V.int))) l2 o2) p = some (.lst [.int c, .int (n + 1), .int r]) := fun o2 => by
        rw [upd_ne npl2]
        exact hp1
      have npl3 : p ≠ l3 := ne_of_none (hp2 _) hl3
      have hp3 : ∀ o2 o3 : HO, (upd (upd (upd (upd H p (.lst [.int c, .int (n + 1), .int r])) l1 (.lst ((primes.take 8).map V.int))) l2 o2) l3 o3) p = some (.lst [.int c, .int (n + 1), .int r]) := fun o2 o3 => by
        rw [upd_ne npl3]
        exact hp2 _
      have f0 := fmod_pos (n + 1) (show (1 : Int) ≤ 11 by decide)
      obtain ⟨pr, ep, pr2, pr31⟩ := prime_at _ f0.1 f0.2
      refine ⟨_, rfl, p, _, _, _, rfl, rfl, SqL.of (hp3 _ _), atI_nat (j := 1) rfl, _, _, rfl, rfl, (by show (11 : Int) ≠ 0; decide), l3, _, _, _, rfl, rfl, SqL.of upd_same, ep, ?_⟩
      have f1 := fmod_pos c (show 1 ≤ pr by omega)
      refine ⟨_, rfl, p, _, _, _, rfl, rfl, SqL.of (hp3 _ _), atI_nat (j := 0) rfl, _, rfl, _, _, rfl, rfl, (by omega), _, rfl, p, _, _, _, rfl, rfl, SqL.of (hp3 _ _), atI_nat (j := 1) rfl, _, _, rfl, rfl, .inl (by decide), _, _, rfl, rfl,
        _, _, rfl, rfl, _, _, rfl, rfl, ⟨by decide, by decide, (by omega)⟩, _, rfl, _, _, rfl, rfl, (by omega), _, _, rfl, rfl, ⟨by decide, by decide⟩, _, rfl, _, _, rfl, rfl, (by omega), ?_⟩
      have f2 := fmod_pos ((((c.fmod pr + 7919 * (n + 1) + 1) ^ (5 : Int).toNat).fmod pr).fdiv 13) m1
      have s1 : Same G (upd H p (.lst [.int c, .int (n + 1), .int r])) := same_at hs hG
      exact q _ _ f2.1 f2.2 (((s1.trans (same_new hl1)).trans (same_new hl2)).trans (same_new hl3)) ⟨c, n + 1, r, hp3 _ _, by omega, by omega⟩
abbrev s_h_pick : Stmt := topS 13
theorem sc_h_pick : FnScope ["_law_source_here", "_law_items"] ["_law_source_here", "_law_items"] (defScope s_h_pick) := ⟨rfl, rfl, rfl, by decide +kernel, rfl, by decide +kernel, by decide +kernel⟩
theorem ok_h_pick {f : Addr} {fd : FuncData} (F : Fun K "_law_pick" "_law_pick" s_h_pick f fd) (T : Txt mg) (D_h_next : Dn P w K mg base CX0 1 "_law_next" ["_law_source_here", "_law_many"] (spNext)) : FnOk P w K mg base CX0 2 f fd ["_law_source_here", "_law_items"] (spPick) := by
  refine F.ok sc_h_pick (fun vs H Q E h => ?_) (fun cdv A outer s H vs Q E hr h => ?_)
  · obtain ⟨p, l, xs, b, G, rfl, _⟩ := h
    rfl
  · obtain ⟨p, l, xs, b, G, rfl, hl, h1, h2, hS, hB, hG, hs, q⟩ := h
    refine ⟨_, pss_one (ps_ret (pe_ix ix_list (pv 1) (pe_D D_h_next (hr.mono (by decide)) (by rfl) pass0 (pa_cons (pv 0) (pa_cons (pe_callB call_len_seq (by rfl) T.len PySem.boot_len (pa_cons (pv 1) pa_nil)) pa_nil))) (fun _ _ => rfl))), ?_⟩
    refine ⟨_, rfl, _, rfl, _, rfl, l, xs, rfl, .inl (SqL.of (hs _ _ hl)), p, _, b, G, rfl, (by omega), (by omega), hS, hB, hG, hs, fun H1 k k0 k1 s1 S1 => ?_⟩
    obtain ⟨j, rfl⟩ : ∃ j : Nat, k = (j : Int) := ⟨_, (Int.toNat_of_nonneg k0).symm⟩
    have hj : j < xs.length := by omega
    exact ⟨l, _, _, xs[j], rfl, rfl, SqL.of (s1 _ _ hl), atI_nat (List.getElem?_eq_getElem hj), q H1 _ (List.getElem_mem hj) s1 S1⟩
abbrev sI_BadSteps : Stmt := clsAt (topS 3) 0
theorem scI_BadSteps : FnScope ["self", "reason"] ["self", "reason"] (defScope sI_BadSteps) := ⟨rfl, rfl, rfl, by decide +kernel, rfl, by decide +kernel, by decide +kernel⟩
theorem okI_BadSteps {f : Addr} {fd : FuncData} (F : Fun K "__init__" "BadSteps.__init__" sI_BadSteps f fd) : FnOk P w K mg base CX0 1 f fd ["self", "reason"] (spMk K ["reason"]) := by
  refine F.ok scI_BadSteps (fun vs H Q E h => ?_) (fun cdv A outer s H vs Q E hr h => ?_)
  · obtain ⟨a, C, H0, ws, rfl, l, _⟩ := h
    exact congrArg (· + 1) l
  · obtain ⟨a, C, H0, ws, rfl, l, hC, hn, mk, q⟩ := h
    match ws, l with
    | [v1], _ =>
      refine ⟨_, pss_one (ps_put (pv 0) (pv 1)), ?_⟩
      refine ⟨_, rfl, _, rfl, a, C, H0, [], rfl, hC, hn "reason" (by simp), (by show 0 ≤ 900; decide), mk, fun H1 mk1 => ?_⟩
      exact q _ mk1
end
end K23

set_option Elab.async false
set_option linter.all false
set_option maxRecDepth 100000
set_option maxHeartbeats 4000000
namespace K23
open PySem Nb
open L2 hiding del del_ne del_same
section
variable {P : Program} {w : World} {K : PySem.W.Frag} {mg : Str → Option Value} {base : Heap}
abbrev s_Chain___init : Stmt := clsAt (topS 6) 0
theorem sc_Chain___init : FnScope ["self", "steps"] ["self", "steps"] (defScope s_Chain___init) := ⟨rfl, rfl, rfl, by decide +kernel, rfl, by decide +kernel, by decide +kernel⟩
theorem ok_Chain___init {f : Addr} {fd : FuncData} (F : Fun K "__init__" "Chain.__init__" s_Chain___init f fd) {C_Chain : Addr} (T : Txt mg) (K_Chain : Kl K mg "Chain" C_Chain ["steps"]) : FnOk P w K mg base CX0 1 f fd ["self", "steps"] (spInit1 C_Chain) := by
  refine F.ok sc_Chain___init (fun vs H Q E h => ?_) (fun cdv A outer s H vs Q E hr h => ?_)
  · obtain ⟨m, dx, v, rfl, _⟩ := h
    rfl
  · obtain ⟨m, dx, v, rfl, ho, q⟩ := h
    refine ⟨_, pss_one (ps_fld (pv 0) (pv 1) rfl), ?_⟩
    exact ⟨_, rfl, _, rfl, m, _, dx, _, rfl, ho, K_Chain.cl, K_Chain.no "steps" (by simp), (by show 0 < 1000; decide), q⟩
abbrev s_Ring___init : Stmt := clsAt (topS 8) 0
theorem sc_Ring___init : FnScope ["self", "steps"] ["self", "steps"] (defScope s_Ring___init) := ⟨rfl, rfl, rfl, by decide +kernel, rfl, by decide +kernel, by decide +kernel⟩
theorem ok_Ring___init {f : Addr} {fd : FuncData} (F : Fun K "__init__" "Ring.__init__" s_Ring___init f fd) {C_Ring : Addr} (T : Txt mg) (K_Ring : Kl K mg "Ring" C_Ring ["steps"]) : FnOk P w K mg base CX0 1 f fd ["self", "steps"] (spInit1 C_Ring) := by
  refine F.ok sc_Ring___init (fun vs H Q E h => ?_) (fun cdv A outer s H vs Q E hr h => ?_)
  · obtain ⟨m, dx, v, rfl, _⟩ := h
    rfl
  · obtain ⟨m, dx, v, rfl, ho, q⟩ := h
    refine ⟨_, pss_one (ps_fld (pv 0) (pv 1) rfl), ?_⟩
    exact ⟨_, rfl, _, rfl, m, _, dx, _, rfl, ho, K_Ring.cl, K_Ring.no "steps" (by simp), (by show 0 < 1000; decide), q⟩
abbrev s_Through___init : Stmt := clsAt (topS 7) 0
theorem sc_Through___init : FnScope ["self", "steps", "name"] ["self", "steps", "name"] (defScope s_Through___init) := ⟨rfl, rfl, rfl, by decide +kernel, rfl, by decide +kernel, by decide +kernel⟩
theorem ok_Through___init {f : Addr} {fd : FuncData} (F : Fun K "__init__" "Through.__init__" s_Through___init f fd) {C_Through : Addr} (T : Txt mg) (K_Through : Kl K mg "Through" C_Through ["steps", "name"]) : FnOk P w K mg base CX0 1 f fd ["self", "steps", "name"] (spInit2 C_Through) := by
  refine F.ok sc_Through___init (fun vs H Q E h => ?_) (fun cdv A outer s H vs Q E hr h => ?_)
  · obtain ⟨m, dx, v, w2, rfl, _⟩ := h
    rfl
  · obtain ⟨m, dx, v, w2, rfl, ho, q⟩ := h
    refine ⟨_, pss_cons (ps_fld (pv 0) (pv 1) rfl)
        (pss_one (ps_fld (pv 0) (pv 2) rfl)), ?_⟩
    exact ⟨_, rfl, _, rfl, m, _, dx, _, rfl, ho, K_Through.cl, K_Through.no "steps" (by simp), (by show 0 < 1000; decide), _, rfl, _, rfl, m, _, dx, _, rfl, upd_same, K_Through.cl, K_Through.no "name" (by simp), (by show 1 < 1000; decide), q⟩
abbrev s_Chain___len : Stmt := clsAt (topS 6) 2
theorem sc_Chain___len : FnScope ["self"] ["self"] (defScope s_Chain___len) := ⟨rfl, rfl, rfl, by decide +kernel, rfl, by decide +kernel, by decide +kernel⟩
theorem ok_Chain___len {f : Addr} {fd : FuncData} (F : Fun K "__len__" "Chain.__len__" s_Chain___len f fd) {C_Chain : Addr} {C_Ring : Addr} {C_Through : Addr} (T : Txt mg) (K_Chain : Kl K mg "Chain" C_Chain ["steps"]) (KS : ∀ C ∈ [C_Chain, C_Ring, C_Through], Cls K C ∧ NoAttr K C "steps") : FnOk P w K mg base CX0 1 f fd ["self"] (spLen [C_Chain, C_Ring, C_Through]) := by
  refine F.ok sc_Chain___len (fun vs H Q E h => ?_) (fun cdv A outer s H vs Q E hr h => ?_)
  · obtain ⟨a, ss, rfl, _⟩ := h
    rfl
  · obtain ⟨a, ss, rfl, h, q⟩ := h
    refine ⟨_, pss_one (ps_ret (pe_callB call_len_seq (by rfl) T.len PySem.boot_len (pa_cons (pe_fld (pv 0) rfl) pa_nil))), ?_⟩
    obtain ⟨C, dx, t, fs, mC, ho, l, as, et, f⟩ := h
    exact ⟨_, rfl, a, C, dx, fs, _, rfl, ho, (KS C mC).1, (KS C mC).2, l, t, _, rfl, .inr (SqT.of et), by rw [List.length_map, f2_len f]; exact q⟩
abbrev s_Ring___len : Stmt := clsAt (topS 8) 2
theorem sc_Ring___len : FnScope ["self"] ["self"] (defScope s_Ring___len) := ⟨rfl, rfl, rfl, by decide +kernel, rfl, by decide +kernel, by decide +kernel⟩
theorem ok_Ring___len {f : Addr} {fd : FuncData} (F : Fun K "__len__" "Ring.__len__" s_Ring___len f fd) {C_Chain : Addr} {C_Ring : Addr} {C_Through : Addr} (T : Txt mg) (K_Ring : Kl K mg "Ring" C_Ring ["steps"]) (KS : ∀ C ∈ [C_Chain, C_Ring, C_Through], Cls K C ∧ NoAttr K C "steps") : FnOk P w K mg base CX0 1 f fd ["self"] (spLen [C_Chain, C_Ring, C_Through]) := by
  refine F.ok sc_Ring___len (fun vs H Q E h => ?_) (fun cdv A outer s H vs Q E hr h => ?_)
  · obtain ⟨a, ss, rfl, _⟩ := h
    rfl
  · obtain ⟨a, ss, rfl, h, q⟩ := h
    refine ⟨_, pss_one (ps_ret (pe_callB call_len_seq (by rfl) T.len PySem.boot_len (pa_cons (pe_fld (pv 0) rfl) pa_nil))), ?_⟩
    obtain ⟨C, dx, t, fs, mC, ho, l, as, et, f⟩ := h
    exact ⟨_, rfl, a, C, dx, fs, _, rfl, ho, (KS C mC).1, (KS C mC).2, l, t, _, rfl, .inr (SqT.of et), by rw [List.length_map, f2_len f]; exact q⟩
abbrev s_Through___len : Stmt := clsAt (topS 7) 2
theorem sc_Through___len : FnScope ["self"] ["self"] (defScope s_Through___len) := ⟨rfl, rfl, rfl, by decide +kernel, rfl, by decide +kernel, by decide +kernel⟩
theorem ok_Through___len {f : Addr} {fd : FuncData} (F : Fun K "__len__" "Through.__len__" s_Through___len f fd) {C_Chain : Addr} {C_Ring : Addr} {C_Through : Addr} (T : Txt mg) (K_Through : Kl K mg "Through" C_Through ["steps", "name"]) (KS : ∀ C ∈ [C_Chain, C_Ring, C_Through], Cls K C ∧ NoAttr K C "steps") : FnOk P w K mg base CX0 1 f fd ["self"] (spLen [C_Chain, C_Ring, C_Through]) := by
  refine F.ok sc_Through___len (fun vs H Q E h => ?_) (fun cdv A outer s H vs Q E hr h => ?_)
  · obtain ⟨a, ss, rfl, _⟩ := h
    rfl
  · obtain ⟨a, ss, rfl, h, q⟩ := h
    refine ⟨_, pss_one (ps_ret (pe_callB call_len_seq (by rfl) T.len PySem.boot_len (pa_cons (pe_fld (pv 0) rfl) pa_nil))), ?_⟩
    obtain ⟨C, dx, t, fs, mC, ho, l, as, et, f⟩ := h
    exact ⟨_, rfl, a, C, dx, fs, _, rfl, ho, (KS C mC).1, (KS C mC).2, l, t, _, rfl, .inr (SqT.of et), by rw [List.length_map, f2_len f]; exact q⟩
abbrev s_joined_steps : Stmt := topS 9
theorem sc_joined_steps : FnScope ["one", "other"] ["one", "other"] (defScope s_joined_steps) := ⟨rfl, rfl, rfl, by decide +kernel, rfl, by decide +kernel, by decide +kernel⟩
theorem ok_joined_steps {f : Addr} {fd : FuncData} (F : Fun K "_joined_steps" "_joined_steps" s_joined_steps f fd) {C_BadSteps : Addr} {C_Chain : Addr} {C_Ring : Addr} {C_Through : Addr} (T : Txt mg) (E_BadSteps : Er P w K mg base "BadSteps" C_BadSteps ["reason"]) (KS : ∀ C ∈ [C_Chain, C_Ring, C_Through], Cls K C ∧ NoAttr K C "steps") : FnOk P w K mg base (L2.CX P w) 3 f fd ["one", "other"] (spJoin [C_Chain, C_Ring, C_Through] C_BadSteps) := by
  refine F.okX sc_joined_steps (fun vs H Q E h => ?_) (fun cdv A outer s H vs Q E hr h => ?_)
  · obtain ⟨a, b, ss, us, rfl, _⟩ := h
    rfl
  · obtain ⟨a, b, ss, us, rfl, h1, h2, n1, n2, q1, q2⟩ := h
    have tk := takes_of (X := cxOf (L2.CX P w) P w K mg base ["one", "other"] "_joined_steps" (defScope s_joined_steps) f cdv A outer s H E) (E := E) rfl rfl rfl rfl
    refine ⟨_, pss_cons (ps_if (PW.pt (pw_or (pt_not (pt_truth (pe_fld (pv 0) rfl) (by intro _; rfl))) (pw_or (pt_not (pt_truth (pe_fld (pv 1) rfl) (by intro _; rfl))) (pw_or1 (pt_cmpR op_ne (pe_ix ix_tup (pe_ix ix_tup (pe_fld (pv 0) rfl) (pe_un un_neg pe_int) (fun _ _ => rfl)) pe_int (fun _ _ => rfl)) (pe_ix ix_tup (pe_ix ix_tup (pe_fld (pv 1) rfl) pe_int (fun _ _ => rfl)) pe_int (fun _ _ => rfl)) (nomark _)))))) (pss_one (ps_raise rfl tk (pmk_err E_BadSteps (hr.mono (by decide)) (by rfl) (pa_cons pe_str pa_nil)))) pss_nil)
        (pss_one (ps_ret (pe_tupS (StX.pa_star (pe_fld (pv 0) rfl) (StX.pa_star (pe_fld (pv 1) rfl) pa_nil))))), ?_⟩
    obtain ⟨C, dx, t, fs, mC, ho, l, as, et, f⟩ := h1
    obtain ⟨C', dx', t', fs', mC', ho', l', as', et', f'⟩ := h2
    have bad : fits ss us = false → ∀ d, H d = none → E (.ref C_BadSteps) (some d) (upd H d (.xd ([("reason" : PySem.Str)].zip [V.str "the second chain does not go on where the first ends"]).reverse)) := fun hf d hd => q2 hf _ d _ (same_new hd) upd_same
    refine ⟨_, rfl, a, C, dx, fs, _, rfl, ho, (KS C mC).1, (KS C mC).2, l, _, .inr (.inl ⟨_, SqT.of et, rfl⟩), ?_⟩
    rcases List.eq_nil_or_concat ss with rfl | ⟨si, s, ec⟩
    · cases f
      refine iteT ?_
      exact iteT ⟨rfl, bad rfl⟩
    rw [List.concat_eq_append] at ec
    subst ec
    obtain ⟨ai, la, rfl, fi, el⟩ := f2_last f
    refine iteF0 (by cases ai <;> rfl) ?_
    refine ⟨_, rfl, b, C', dx', fs', _, rfl, ho', (KS C' mC').1, (KS C' mC').2, l', _, .inr (.inl ⟨_, SqT.of et', rfl⟩), ?_⟩
    cases us with
    | nil =>
      cases f'
      refine iteT ?_
      exact iteT ⟨rfl, bad (by simp [fits])⟩
    | cons u us =>
      cases f' with
      | @cons lb _ ai' _ eb fb =>
        refine iteF ?_
        refine ⟨_, rfl, a, C, dx, fs, _, rfl, ho, (KS C mC).1, (KS C mC).2, l, _, rfl, t, _, _, .ref la, rfl, rfl, SqT.of et, (by rw [List.map_append]; exact atI_last _ _), la, _, _, .str s.2.1, rfl, rfl, SqT.of el, atI_nat (j := 1) rfl, ?_⟩
        refine ⟨_, rfl, b, C', dx', fs', _, rfl, ho', (KS C' mC').1, (KS C' mC').2, l', t', _, _, .ref lb, rfl, rfl, SqT.of et', atI_nat (j := 0) rfl, lb, _, _, .str u.1, rfl, rfl, SqT.of eb, atI_nat (j := 0) rfl, rfl, _, rfl, ?_⟩
        have hf : fits (si ++ [s]) (u :: us) = decide (s.2.1 = u.1) := by simp [fits]
        have hd : decide (V.str s.2.1 = V.str u.1) = decide (s.2.1 = u.1) := by simp
        rw [hd]
        cases hq : decide (s.2.1 = u.1) with
        | false => exact iteT ⟨rfl, bad (hf.trans hq)⟩
        | true =>
          refine iteF ?_
          refine ⟨_, rfl, a, C, dx, fs, _, rfl, ho, (KS C mC).1, (KS C mC).2, l, t, _, rfl, .inl (SqT.of et), _, rfl, b, C', dx', fs', _, rfl, ho', (KS C' mC').1, (KS C' mC').2, l', t', _, rfl, .inl (SqT.of et'), ?_, fun H2 r s2 n2 e2 => ?_⟩
          · have k1 := f2_len fi
            have k2 := f2_len fb
            simp only [List.length_append, List.length_map, List.length_cons, List.length_nil] at n1 n2 ⊢
            omega
          · refine q1 (hf.trans hq) H2 r s2 ⟨(ai ++ [la]) ++ (lb :: ai'), ?_, f2_imp (fun _ _ k => s2 _ _ k) (f2_app (f2_snoc fi el) (.cons eb fb))⟩
            rw [List.map_append]
            simpa using e2
abbrev s_Chain___add : Stmt := clsAt (topS 6) 3
theorem sc_Chain___add : FnScope ["self", "other"] ["self", "other"] (defScope s_Chain___add) := ⟨rfl, rfl, rfl, by decide +kernel, rfl, by decide +kernel, by decide +kernel⟩
theorem ok_Chain___add {f : Addr} {fd : FuncData} (F : Fun K "__add__" "Chain.__add__" s_Chain___add f fd) {C_BadSteps : Addr} {C_Chain : Addr} {C_Ring : Addr} {C_Through : Addr} (T : Txt mg) (K_Chain : Kl K mg "Chain" C_Chain ["steps"]) (D_Chain___init : Mi P w K mg base CX0 1 C_Chain ["self", "steps"] (spInit1 C_Chain)) (D_joined_steps : Dn P w K mg base (L2.CX P w) 3 "_joined_steps" ["one", "other"] (spJoin [C_Chain, C_Ring, C_Through] C_BadSteps)) : FnOk P w K mg base (L2.CX P w) 4 f fd ["self", "other"] (spAdd [C_Chain, C_Ring, C_Through] C_Chain C_BadSteps) := by
  refine F.okX sc_Chain___add (fun vs H Q E h => ?_) (fun cdv A outer s H vs Q E hr h => ?_)
  · obtain ⟨a, b, ss, us, rfl, _⟩ := h
    rfl
  · obtain ⟨a, b, ss, us, rfl, h1, h2, n1, n2, q1, q2⟩ := h
    have tk := takes_of (X := cxOf (L2.CX P w) P w K mg base ["self", "other"] "Chain.__add__" (defScope s_Chain___add) f cdv A outer s H E) (E := E) rfl rfl rfl rfl
    refine ⟨_, pss_one (ps_ret (pe_Mi D_Chain___init (hr.mono (by decide)) (by rfl) K_Chain.g pass0 (pa_cons (pe_D D_joined_steps (hr.mono (by decide)) (by rfl) (passes_call tk fun _ _ _ _ h => h) (pa_cons (pv 0) (pa_cons (pv 1) pa_nil))) pa_nil))), ?_⟩
    refine ⟨_, rfl, _, rfl, a, b, ss, us, rfl, h1, h2, n1, n2, fun hf H1 t s1 k1 => fun r dx nr nd ne => ⟨r, dx, .ref t, rfl, upd_same, rfl, ?_⟩, q2⟩
    have s2 : Same H1 (upd (upd (upd H1 dx (HO.own r)) r (HO.ins C_Chain dx [])) r (HO.ins C_Chain dx [("steps", .ref t)])) := same_at (same_at (same_new nd) nr) nr
    exact q1 hf _ r (s1.trans s2) ⟨dx, t, upd_same, steps_same s2 k1⟩
abbrev s_Ring___add : Stmt := clsAt (topS 8) 3
theorem sc_Ring___add : FnScope ["self", "other"] ["self", "other"] (defScope s_Ring___add) := ⟨rfl, rfl, rfl, by decide +kernel, rfl, by decide +kernel, by decide +kernel⟩
theorem ok_Ring___add {f : Addr} {fd : FuncData} (F : Fun K "__add__" "Ring.__add__" s_Ring___add f fd) {C_BadSteps : Addr} {C_Chain : Addr} {C_Ring : Addr} {C_Through : Addr} (T : Txt mg) (K_Chain : Kl K mg "Chain" C_Chain ["steps"]) (K_Ring : Kl K mg "Ring" C_Ring ["steps"]) (D_Chain___init : Mi P w K mg base CX0 1 C_Chain ["self", "steps"] (spInit1 C_Chain)) (D_joined_steps : Dn P w K mg base (L2.CX P w) 3 "_joined_steps" ["one", "other"] (spJoin [C_Chain, C_Ring, C_Through] C_BadSteps)) : FnOk P w K mg base (L2.CX P w) 4 f fd ["self", "other"] (spAdd [C_Chain, C_Ring, C_Through] C_Chain C_BadSteps) := by
  refine F.okX sc_Ring___add (fun vs H Q E h => ?_) (fun cdv A outer s H vs Q E hr h => ?_)
  · obtain ⟨a, b, ss, us, rfl, _⟩ := h
    rfl
  · obtain ⟨a, b, ss, us, rfl, h1, h2, n1, n2, q1, q2⟩ := h
    have tk := takes_of (X := cxOf (L2.CX P w) P w K mg base ["self", "other"] "Ring.__add__" (defScope s_Ring___add) f cdv A outer s H E) (E := E) rfl rfl rfl rfl
    refine ⟨_, pss_one (ps_ret (pe_Mi D_Chain___init (hr.mono (by decide)) (by rfl) K_Chain.g pass0 (pa_cons (pe_D D_joined_steps (hr.mono (by decide)) (by rfl) (passes_call tk fun _ _ _ _ h => h) (pa_cons (pv 0) (pa_cons (pv 1) pa_nil))) pa_nil))), ?_⟩
    refine ⟨_, rfl, _, rfl, a, b, ss, us, rfl, h1, h2, n1, n2, fun hf H1 t s1 k1 => fun r dx nr nd ne => ⟨r, dx, .ref t, rfl, upd_same, rfl, ?_⟩, q2⟩
    have s2 : Same H1 (upd (upd (upd H1 dx (HO.own r)) r (HO.ins C_Chain dx [])) r (HO.ins C_Chain dx [("steps", .ref t)])) := same_at (same_at (same_new nd) nr) nr
    exact q1 hf _ r (s1.trans s2) ⟨dx, t, upd_same, steps_same s2 k1⟩
abbrev s_Through___add : Stmt := clsAt (topS 7) 3
theorem sc_Through___add : FnScope ["self", "other"] ["self", "other"] (defScope s_Through___add) := ⟨rfl, rfl, rfl, by decide +kernel, rfl, by decide +kernel, by decide +kernel⟩
theorem ok_Through___add {f : Addr} {fd : FuncData} (F : Fun K "__add__" "Through.__add__" s_Through___add f fd) {C_BadSteps : Addr} {C_Chain : Addr} {C_Ring : Addr} {C_Through : Addr} (T : Txt mg) (K_Chain : Kl K mg "Chain" C_Chain ["steps"]) (K_Through : Kl K mg "Through" C_Through ["steps", "name"]) (D_Chain___init : Mi P w K mg base CX0 1 C_Chain ["self", "steps"] (spInit1 C_Chain)) (D_joined_steps : Dn P w K mg base (L2.CX P w) 3 "_joined_steps" ["one", "other"] (spJoin [C_Chain, C_Ring, C_Through] C_BadSteps)) : FnOk P w K mg base (L2.CX P w) 4 f fd ["self", "other"] (spAdd [C_Chain, C_Ring, C_Through] C_Chain C_BadSteps) := by
  refine F.okX sc_Through___add (fun vs H Q E h => ?_) (fun cdv A outer s H vs Q E hr h => ?_)
  · obtain ⟨a, b, ss, us, rfl, _⟩ := h
    rfl
  · obtain ⟨a, b, ss, us, rfl, h1, h2, n1, n2, q1, q2⟩ := h
    have tk := takes_of (X := cxOf (L2.CX P w) P w K mg base ["self", "other"] "Through.__add__" (defScope s_Through___add) f cdv A outer s H E) (E := E) rfl rfl rfl rfl
    refine ⟨_, pss_one (ps_ret (pe_Mi D_Chain___init (hr.mono (by decide)) (by rfl) K_Chain.g pass0 (pa_cons (pe_D D_joined_steps (hr.mono (by decide)) (by rfl) (passes_call tk fun _ _ _ _ h => h) (pa_cons (pv 0) (pa_cons (pv 1) pa_nil))) pa_nil))), ?_⟩
    refine ⟨_, rfl, _, rfl, a, b, ss, us, rfl, h1, h2, n1, n2, fun hf H1 t s1 k1 => fun r dx nr nd ne => ⟨r, dx, .ref t, rfl, upd_same, rfl, ?_⟩, q2⟩
    have s2 : Same H1 (upd (upd (upd H1 dx (HO.own r)) r (HO.ins C_Chain dx [])) r (HO.ins C_Chain dx [("steps", .ref t)])) := same_at (same_at (same_new nd) nr) nr
    exact q1 hf _ r (s1.trans s2) ⟨dx, t, upd_same, steps_same s2 k1⟩
abbrev s_Chain___eq : Stmt := clsAt (topS 6) 1
theorem sc_Chain___eq : FnScope ["self", "other"] ["self", "other"] (defScope s_Chain___eq) := ⟨rfl, rfl, rfl, by decide +kernel, rfl, by decide +kernel, by decide +kernel⟩
theorem ok_Chain___eq {f : Addr} {fd : FuncData} (F : Fun K "__eq__" "Chain.__eq__" s_Chain___eq f fd) {C_Chain : Addr} (T : Txt mg) (K_Chain : Kl K mg "Chain" C_Chain ["steps"]) : FnOk P w K mg base CX0 1 f fd ["self", "other"] (spEq C_Chain) := by
  refine F.ok sc_Chain___eq (fun vs H Q E h => ?_) (fun cdv A outer s H vs Q E hr h => ?_)
  · obtain ⟨a, b, ss, us, rfl, _⟩ := h
    rfl
  · obtain ⟨a, b, ss, us, rfl, h1, h2, o1, o2, q⟩ := h
    refine ⟨_, pss_one (ps_ret (pe_and (pe_cmpR op_is_cls (pe_callTy cr_type (by rfl) T.type (by decide +kernel) (pa_cons (pv 0) pa_nil)) (pe_callTy cr_type (by rfl) T.type (by decide +kernel) (pa_cons (pv 1) pa_nil)) (nomark _)) (pe_one (pe_cmpR (op_eqD hr.units) (pe_fld (pv 0) rfl) (pe_fld (pv 1) rfl) (nomark _))))), ?_⟩
    obtain ⟨dx, t, ea, h1⟩ := h1
    obtain ⟨dy, u, eb, h2⟩ := h2
    refine ⟨_, rfl, a, C_Chain, dx, _, rfl, ea, _, rfl, b, C_Chain, dy, _, rfl, eb, C_Chain, C_Chain, rfl, rfl, .inl rfl, true, congrArg V.bl (decide_eq_true rfl), iteT ?_⟩
    exact ⟨_, rfl, a, C_Chain, dx, _, _, rfl, ea, K_Chain.cl, K_Chain.no "steps" (by simp), rfl, _, rfl, b, C_Chain, dy, _, _, rfl, eb, K_Chain.cl, K_Chain.no "steps" (by simp), rfl, stsD ss, stsD us, dp_steps h1, dp_steps h2, (fine_steps o1).shaped (by decide), (fine_steps o2).shaped (by decide), q⟩
end
end K23

set_option Elab.async false
set_option linter.all false
set_option maxRecDepth 100000
set_option maxHeartbeats 4000000
namespace K23
open PySem Nb
open L2 hiding del del_ne del_same
theorem f2_thru {H HB : Hp} {p : Addr} {n : Nat} (S : Src H p n) (sB : Same (Nb.del H p) HB) {as : List Addr} {ss : List St3} (h : F2 (fun a s => H a = some (tup3 s)) as ss) : F2 (fun a s => HB a = some (tup3 s)) as ss := f2_imp (fun a s k => sB _ _ (del_keep k (src_ne S k (by intro xs z; cases z)))) h
theorem f2_put {H : Hp} {l : Addr} {xs : List V} {o : HO} (e : H l = some (.lst xs)) {as : List Addr} {ss : List St3} (h : F2 (fun a s => H a = some (tup3 s)) as ss) : F2 (fun a s => (upd H l o) a = some (tup3 s)) as ss := f2_imp (fun a s k => by
  rw [upd_ne (ne_of k e (fun z => nomatch z))]
  exact k) h
theorem steps_thru {H HB : Hp} {p t : Addr} {n : Nat} {ss : List St3} (S : Src H p n) (sB : Same (Nb.del H p) HB) (h : StepsAt H t ss) : StepsAt HB t ss := let ⟨as, e, f⟩ := h; ⟨as, sB _ _ (del_keep e (src_ne S e (by intro xs z; cases z))), f2_thru S sB f⟩
theorem rs_thru {cs : List Addr} {H HB : Hp} {p a : Addr} {n : Nat} {ss : List St3} (S : Src H p n) (sB : Same (Nb.del H p) HB) (h : Rs cs H a ss) : Rs cs HB a ss := let ⟨C, dx, t, fs, m, e, l, k⟩ := h; ⟨C, dx, t, fs, m, sB _ _ (del_keep e (src_ne S e (by intro xs z; cases z))), l, steps_thru S sB k⟩
def spRow : Sp := fun vs H Q _ => ∃ (p : Addr) (x : PySem.Str) (m b : Nat) (G : Hp), vs = [.ref p, .str x, .int m] ∧ PyData.strOk x = true ∧ m ≤ 10 ∧ Src H p b ∧ b ≤ 100000 ∧ G p = none ∧ Same G H ∧
  ∀ H' t ss, Same G H' → Src H' p (b + 2 * m) → StepsAt H' t ss → Ok3 ss → ss.length = m → (∀ s, ss.head? = some s → s.1 = x) → Q (.ref t) H'
def spReason (cs : List Addr) : Sp := fun vs H Q _ => ∃ (p t : Addr) (ss : List St3) (b : Nat) (G : Hp), vs = [.ref p, .ref t] ∧ Src H p b ∧ b ≤ 100000 ∧ G p = none ∧ Same G H ∧ StepsAt G t ss ∧ ∀ H' a, Same G H' → Src H' p (b + 1) → Rs cs H' a ss → Q (.ref a) H'
/-- len(x) by the own __len__ of one of the classes cs -/
theorem call_lenO3 {X : Cx} {CX : CXT} {n : Nat} {ps : List PySem.Str} {sp : Sp} {E : XK} {cs : List Addr} (O : ∀ C ∈ cs, Om X CX n C "__len__" ps sp) (hr : L2.Room (n + 1) X.A) (hx : Passes CX X E) : CallR X (.builtin "len") (fun xs H Q => ∃ a C dx fs, xs = [.ref a] ∧ C ∈ cs ∧ H a = some (.ins C dx fs) ∧ sp [.ref a] H (fun v H' => ∃ k : Int, v = .int k ∧ 0 ≤ k ∧ k < 2 ^ 63 ∧ Q (.int k) H') E) := fun pins s σ H xs us Q I r ⟨a, C, dx, fs, e, m, ea, h⟩ => call_lenO (O C m) hr hx pins s σ H xs us Q I r ⟨a, dx, fs, e, ea, h⟩
def sumD (ss us : List St3) : PyData := if fits ss us = true then .tuple [stsD (ss ++ us), .int ((ss ++ us).length : Nat)] else .str "steps"
def spSum (K : PySem.W.Frag) (cs : List Addr) : Sp := fun vs H Q _ => ∃ (a b : Addr) (ss us : List St3), vs = [.ref a, .ref b] ∧ Rs cs H a ss ∧ Rs cs H b us ∧ ss.length ≤ 400 ∧ us.length ≤ 400 ∧ Ok3 ss ∧ Ok3 us ∧ ∀ H' v, Same H H' → Dp K H' v (sumD ss us) → Q v H'
section
variable {P : Program} {w : World} {K : PySem.W.Frag} {mg : Str → Option Value} {base : Heap}
abbrev s_h_row_of_steps : Stmt := topS 14
theorem sc_h_row_of_steps : FnScope ["_law_source_here", "_law_first", "_law_many", "_law_found", "_law_turn", "_law_later"] ["_law_source_here", "_law_first", "_law_many"] (defScope s_h_row_of_steps) := ⟨rfl, rfl, rfl, by decide +kernel, rfl, by decide +kernel, by decide +kernel⟩
theorem ok_h_row_of_steps {f : Addr} {fd : FuncData} (F : Fun K "_law_row_of_steps" "_law_row_of_steps" s_h_row_of_steps f fd) (T : Txt mg) (D_h_pick : Dn P w K mg base CX0 2 "_law_pick" ["_law_source_here", "_law_items"] (spPick)) : FnOk P w K mg base CX0 3 f fd ["_law_source_here", "_law_first", "_law_many"] (spRow) := by
  refine F.ok sc_h_row_of_steps (fun vs H Q E h => ?_) (fun cdv A outer s H vs Q E hr h => ?_)
  · obtain ⟨p, x, m, b, G, rfl, _⟩ := h
    rfl
  · obtain ⟨p, x, m, b, G, rfl, ox, hm, S, hB, hG, hs, q⟩ := h
    refine ⟨_, pss_cons (ps_set (i := 3) sc_h_row_of_steps.nd rfl (Or.inl rfl) (pe_lstS pa_nil))
        (pss_cons (ps_for PassesOwn.never rfl (pi_range1 (by rfl) T.range (pa_cons (pv 2) pa_nil)) (pg_name (i := 4) sc_h_row_of_steps.nd rfl (Or.inl rfl)) (pss_cons (ps_set (i := 5) sc_h_row_of_steps.nd rfl (Or.inl rfl) (pe_D D_h_pick (hr.mono (by decide)) (by rfl) pass0 (pa_cons (pv 0) (pa_cons (pe_lstS (pa_cons pe_str (pa_cons pe_str (pa_cons pe_str (pa_cons pe_str pa_nil))))) pa_nil))))
        (pss_cons (ps_expr (pe_bm PySem.F.plainAttrs_list PySem.F.slot_list_append PySem.F.type_list_append mt_append (pv 3) (pa_cons (pe_tupS (pa_cons (pv 1) (pa_cons (pv 5) (pa_cons (pe_D D_h_pick (hr.mono (by decide)) (by rfl) pass0 (pa_cons (pv 0) (pa_cons (pe_lstS (pa_cons pe_str (pa_cons pe_str pa_nil))) pa_nil))) pa_nil)))) pa_nil)))
        (pss_one (ps_set (i := 1) sc_h_row_of_steps.nd rfl (Or.inl rfl) (pv 5))))))
        (pss_one (ps_ret (pe_callTy cr_tupleS (by rfl) T.tuple (by decide +kernel) (pa_cons (pv 3) pa_nil))))), ?_⟩
    refine ⟨by decide, fun H1 l s1 n1 e1 => ?_⟩
    have hl0 := src_away S n1
    refine ⟨_, rfl, (m : Int), rfl, by omega, by omega, for_range (lo := 0) (fun i σ H' => ∃ y ss as v4 v5, σ = [some (.ref p), some (.str y), some (.int m), some (.ref l), v4, v5] ∧ Same G H' ∧ H' l = some (.lst ((as : List Addr).map V.ref)) ∧ F2 (fun a s => H' a = some (tup3 s)) as ss ∧ Ok3 ss ∧ ss.length = i ∧ PyData.strOk y = true ∧ Src H' p (b + 2 * i) ∧ (∀ s, ss.head? = some s → s.1 = x) ∧ (i = 0 → y = x))
      ⟨x, [], [], none, none, rfl, hs.trans s1, e1, .nil, (fun _ h => nomatch h), rfl, ox, S.same s1, (fun _ h => nomatch h), fun _ => rfl⟩ ?_ ?_⟩
    · rintro i σ H2 hi ⟨y, ss, as, v4, v5, rfl, s2, e2, f2, o2, len, oy, S2, hd, h0⟩
      have hi : i < m := by simpa using hi
      refine ⟨_, rfl, (by show 4 ≤ 100000; decide), fun HA lA sA nA eA => ?_⟩
      refine ⟨p, lA, _, b + 2 * i, Nb.del HA p, rfl, del_keep eA (src_away S2 nA), by decide, by decide, S2.same sA, by omega, del_at, del_same, fun HB z hz sB SB => ?_⟩
      obtain ⟨c, rfl, oc⟩ : ∃ c, z = .str c ∧ PyData.strOk c = true := by
        simp only [List.mem_cons, List.not_mem_nil, or_false] at hz
        rcases hz with rfl | rfl | rfl | rfl <;> exact ⟨_, rfl, by decide +kernel⟩
      have eB := sB _ _ (del_keep (sA _ _ e2) hl0)
      refine ⟨_, rfl, .inl ⟨rfl, _, SqL.of eB⟩, ?_⟩
      refine ⟨_, rfl, _, rfl, _, rfl, (by show 2 ≤ 100000; decide), fun HC lC sC nC eC => ?_⟩
      refine ⟨p, lC, _, b + 2 * i + 1, Nb.del HC p, rfl, del_keep eC (src_away SB nC), by decide, by decide, SB.same sC, by omega, del_at, del_same, fun HD w3 hw sD SD => ?_⟩
      obtain ⟨d, rfl, od⟩ : ∃ c, w3 = .str c ∧ PyData.strOk c = true := by
        simp only [List.mem_cons, List.not_mem_nil, or_false] at hw
        rcases hw with rfl | rfl <;> exact ⟨_, rfl, by decide +kernel⟩
      have eD := sD _ _ (del_keep (sC _ _ eB) hl0)
      refine ⟨(by show 3 ≤ 100000; decide), fun HE tE sE nE eE => ?_⟩
      have fB := f2_thru (S2.same sA) sB (f2_imp (fun _ _ k => sA _ _ k) f2)
      have fD := f2_thru (SB.same sC) sD (f2_imp (fun _ _ k => sC _ _ k) fB)
      have fE := f2_snoc (f2_imp (fun _ _ k => sE _ _ k) fD) (show HE tE = some (tup3 (y, c, d)) from eE)
      have g4 : Same G HE := ((same_del ((same_del (s2.trans sA) hG).trans (sB.trans sC)) hG).trans sD).trans sE
      have la : as.length = i := (f2_len f2).trans len
      refine ⟨l, _, .ref tE, rfl, rfl, sE _ _ eD, ?_, _, rfl, c, ss ++ [(y, c, d)], as ++ [tE], _, _, rfl, same_at g4 (hs.free n1), ?_, f2_put (sE _ _ eD) fE, ?_, ?_, oc, ?_, ?_, fun z => by omega⟩
      · rw [List.length_map, la]
        exact small1000 (by omega)
      · rw [upd_same, List.map_append]
        rfl
      · intro s hs'
        rcases List.mem_append.mp hs' with h | h
        · exact o2 s h
        · rw [List.mem_singleton.mp h]
          exact ⟨oy, oc, od⟩
      · rw [List.length_append, len]
        rfl
      · exact (src_at (SD.same sE) (Ne.symm hl0)).mono (by omega)
      · intro s hs'
        cases ss with
        | nil =>
          have e0 : i = 0 := len.symm
          cases hs'
          exact h0 e0
        | cons s0 ss => exact hd s hs'
    · rintro σ H2 ⟨y, ss, as, v4, v5, rfl, s2, e2, f2, o2, len, oy, S2, hd, h0⟩
      have len : ss.length = m := by simpa using len
      refine ⟨_, rfl, l, _, rfl, .inl e2, fun H3 t s3 e3 => ?_⟩
      exact q H3 t ss (s2.trans s3) ((S2.same s3).mono (by simp)) ⟨as, e3, f2_imp (fun _ _ k => s3 _ _ k) f2⟩ o2 len hd
abbrev s_h_reason : Stmt := topS 15
theorem sc_h_reason : FnScope ["_law_source_here", "_law_steps", "_law_way"] ["_law_source_here", "_law_steps"] (defScope s_h_reason) := ⟨rfl, rfl, rfl, by decide +kernel, rfl, by decide +kernel, by decide +kernel⟩
theorem ok_h_reason {f : Addr} {fd : FuncData} (F : Fun K "_law_reason" "_law_reason" s_h_reason f fd) {C_Chain : Addr} {C_Ring : Addr} {C_Through : Addr} (T : Txt mg) (K_Chain : Kl K mg "Chain" C_Chain ["steps"]) (K_Ring : Kl K mg "Ring" C_Ring ["steps"]) (K_Through : Kl K mg "Through" C_Through ["steps", "name"]) (D_h_next : Dn P w K mg base CX0 1 "_law_next" ["_law_source_here", "_law_many"] (spNext)) (D_Chain___init : Mi P w K mg base CX0 1 C_Chain ["self", "steps"] (spInit1 C_Chain)) (D_Ring___init : Mi P w K mg base CX0 1 C_Ring ["self", "steps"] (spInit1 C_Ring)) (D_Through___init : Mi P w K mg base CX0 1 C_Through ["self", "steps", "name"] (spInit2 C_Through)) : FnOk P w K mg base CX0 3 f fd ["_law_source_here", "_law_steps"] (spReason [C_Chain, C_Ring, C_Through]) := by
  refine F.ok sc_h_reason (fun vs H Q E h => ?_) (fun cdv A outer s H vs Q E hr h => ?_)
  · obtain ⟨p, t, ss, b, G, rfl, _⟩ := h
    rfl
  · obtain ⟨p, t, ss, b, G, rfl, S, hB, hG, hs, ht, q⟩ := h
    refine ⟨_, pss_cons (ps_set (i := 2) sc_h_reason.nd rfl (Or.inl rfl) (pe_D D_h_next (hr.mono (by decide)) (by rfl) pass0 (pa_cons (pv 0) (pa_cons pe_int pa_nil))))
        (pss_one (ps_ret (pe_ifExp (pt_cmpR op_eq (pv 2) pe_int (nomark _)) (pe_Mi D_Chain___init (hr.mono (by decide)) (by rfl) K_Chain.g pass0 (pa_cons (pv 1) pa_nil)) (pe_ifExp (pt_cmpR op_eq (pv 2) pe_int (nomark _)) (pe_Mi D_Ring___init (hr.mono (by decide)) (by rfl) K_Ring.g pass0 (pa_cons (pv 1) pa_nil)) (pe_Mi D_Through___init (hr.mono (by decide)) (by rfl) K_Through.g pass0 (pa_cons (pv 1) (pa_cons pe_str pa_nil))))))), ?_⟩
    refine ⟨_, rfl, p, 3, b, G, rfl, by decide, by decide, S, by omega, hG, hs, fun H1 k k0 k3 s1 S1 => ?_⟩
    have fin : ∀ {C : Addr} {fs : List (PySem.Str × V)} {dx r : Addr} {H2 : Hp}, C ∈ [C_Chain, C_Ring, C_Through] → Same H1 H2 → H2 r = some (.ins C dx fs) → fs.lookup ("steps" : PySem.Str) = some (V.ref t) → Q (.ref r) H2 := fun mC s2 e l => q _ _ (s1.trans s2) (S1.same s2) ⟨_, _, t, _, mC, e, l, steps_same (s1.trans s2) ht⟩
    refine ⟨_, rfl, rfl, _, rfl, ?_⟩
    refine ite2 (fun _ => ?_) (fun _ => ?_)
    · exact ⟨_, rfl, fun r dx nr nd ne => ⟨r, dx, .ref t, rfl, upd_same, rfl, fin (by simp) (same_at (same_at (same_new nd) nr) nr) upd_same rfl⟩⟩
    refine ⟨_, rfl, rfl, _, rfl, ?_⟩
    refine ite2 (fun _ => ?_) (fun _ => ?_)
    · exact ⟨_, rfl, fun r dx nr nd ne => ⟨r, dx, .ref t, rfl, upd_same, rfl, fin (by simp) (same_at (same_at (same_new nd) nr) nr) upd_same rfl⟩⟩
    · exact ⟨_, rfl, fun r dx nr nd ne => ⟨r, dx, .ref t, _, rfl, upd_same, rfl, fin (by simp) (same_at (same_at (same_at (same_new nd) nr) nr) nr) upd_same rfl⟩⟩
abbrev s_h_sum : Stmt := topS 16
theorem sc_h_sum : FnScope ["_law_one", "_law_other", "_law_error", "_law_found", "e"] ["_law_one", "_law_other"] (defScope s_h_sum) := ⟨rfl, rfl, rfl, by decide +kernel, rfl, by decide +kernel, by decide +kernel⟩
theorem ok_h_sum {f : Addr} {fd : FuncData} (F : Fun K "_law_sum" "_law_sum" s_h_sum f fd) {C_BadSteps : Addr} {C_Chain : Addr} {C_Ring : Addr} {C_Through : Addr} {C_WorldError : Addr} (T : Txt mg) (K_Chain : Kl K mg "Chain" C_Chain ["steps"]) (D_Chain___init : Mi P w K mg base CX0 1 C_Chain ["self", "steps"] (spInit1 C_Chain)) (D_Chain___len : Mn P w K mg base CX0 1 C_Chain "__len__" ["self"] (spLen [C_Chain, C_Ring, C_Through])) (D_Chain___add : Mn P w K mg base (L2.CX P w) 4 C_Chain "__add__" ["self", "other"] (spAdd [C_Chain, C_Ring, C_Through] C_Chain C_BadSteps)) (D_Ring___add : Mn P w K mg base (L2.CX P w) 4 C_Ring "__add__" ["self", "other"] (spAdd [C_Chain, C_Ring, C_Through] C_Chain C_BadSteps)) (D_Through___add : Mn P w K mg base (L2.CX P w) 4 C_Through "__add__" ["self", "other"] (spAdd [C_Chain, C_Ring, C_Through] C_Chain C_BadSteps)) (D_Chain___eq : Mn P w K mg base CX0 1 C_Chain "__eq__" ["self", "other"] (spEq C_Chain)) (E_BadSteps : Er P w K mg base "BadSteps" C_BadSteps ["reason"]) (g_WorldError : mg "WorldError" = some (.ref C_WorldError)) (BO : Bo K [C_Chain, C_Ring, C_Through]) (exm : PySem.W.exmOne K (.ref C_BadSteps) (.ref C_WorldError) = some true) (kb1 : PySem.W.kitOne K (.ref C_BadSteps) (.ref C_BadSteps) = some true) (kb2 : PySem.W.kitOne K (.ref C_BadSteps) (.type "ValueError") = some true) : FnOk P w K mg base CX0 5 f fd ["_law_one", "_law_other"] (spSum K [C_Chain, C_Ring, C_Through]) := by
  refine F.ok sc_h_sum (fun vs H Q E h => ?_) (fun cdv A outer s H vs Q E hr h => ?_)
  · obtain ⟨a, b, ss, us, rfl, _⟩ := h
    rfl
  · obtain ⟨a, b, ss, us, rfl, h1, h2, n1, n2, o1, o2, q⟩ := h
    refine ⟨_, pss_cons (ps_asg (pe_tupS (pa_cons pe_non (pa_cons pe_non pa_nil))) (pg_tup rfl (pgs_cons (pg_name (i := 2) sc_h_sum.nd rfl (Or.inl rfl)) (pgs_cons (pg_name (i := 3) sc_h_sum.nd rfl (Or.inl rfl)) pgs_nil))))
        (pss_cons (ps_try_kept (i := 4) rfl rfl rfl sc_h_sum.nd rfl rfl ⟨by rfl, rfl, .inl g_WorldError⟩ (fun W pn xe tk _ => (pss_one (ps_set (i := 3) sc_h_sum.nd rfl (Or.inl rfl) (pe_addS BO (mem3 D_Chain___add.om D_Ring___add.om D_Through___add.om) (hr.mono (by decide)) (passAt tk) (pv 0) (pv 1))))) (fun a oe cls d pn hz hf => (pss_one (ps_set (i := 2) sc_h_sum.nd rfl (Or.inl rfl) (pv 4)))))
        (pss_cons (ps_if (pt_cmpR op_notN (pv 2) pe_non (nomark _)) (pss_one (ps_ret (pe_ifExp (PW.pt (pw_and (pt_val (pe_callB call_isK (by rfl) T.isinstance (by decide +kernel) (pa_cons (pv 2) (pa_cons (pe_glob (v := .ref C_BadSteps) (by rfl) E_BadSteps.g rfl) pa_nil)))) (pw_and1 (pt_val (pe_callB call_isK (by rfl) T.isinstance (by decide +kernel) (pa_cons (pv 2) (pa_cons (pe_bltn (v := .ty "ValueError") (by rfl) T.ValueError (by decide +kernel) rfl) pa_nil))))))) pe_str pe_str))) pss_nil)
        (pss_one (ps_ret (pe_ifExp (pt_cmpR (op_eqO D_Chain___eq.om (hr.mono (by decide)) pass0) (pv 3) (pe_Mi D_Chain___init (hr.mono (by decide)) (by rfl) K_Chain.g pass0 (pa_cons (pe_fld (pv 3) rfl) pa_nil)) (nomark _)) (pe_tupS (pa_cons (pe_fld (pv 3) rfl) (pa_cons (pe_callB (call_lenO D_Chain___len.om (hr.mono (by decide)) pass0) (by rfl) T.len PySem.boot_len (pa_cons (pv 3) pa_nil)) pa_nil))) pe_str))))), ?_⟩
    obtain ⟨C, dx, t, fs, mC, ea, l, k1⟩ := id h1
    obtain ⟨D, dy, u, gs, mD, eb, l', k2⟩ := id h2
    refine ⟨by show 2 ≤ 100000; decide, fun H0 t0 s0 n0 e0 => ?_⟩
    refine ⟨t0, _, rfl, .inl (.inl e0), rfl, .non, _, rfl, .non, [], rfl, rfl, ?_⟩
    refine ⟨_, rfl, _, rfl, a, b, C, dx, fs, D, dy, gs, rfl, rfl, mC, mD, s0 _ _ ea, s0 _ _ eb, a, b, ss, us, rfl, rs_same s0 h1, rs_same s0 h2, by omega, by omega, fun hf H1 r s1 ch => ?_, fun hf H1 dd v s1 ed => ⟨exm, fun a' na => ?_⟩⟩
    · obtain ⟨dr, tr, er, kr⟩ := ch
      have oo : Ok3 (ss ++ us) := fun s hs => (List.mem_append.mp hs).elim (o1 s) (o2 s)
      refine ⟨_, rfl, rfl, _, rfl, ?_⟩
      refine iteF ?_
      refine ⟨_, rfl, _, rfl, r, C_Chain, dr, _, .ref tr, rfl, er, K_Chain.cl, K_Chain.no "steps" (by simp), rfl, fun r2 dx2 nr nd ne => ⟨r2, dx2, .ref tr, rfl, upd_same, rfl, ?_⟩⟩
      have s2 : Same H1 (upd (upd (upd H1 dx2 (HO.own r2)) r2 (HO.ins C_Chain dx2 [])) r2 (HO.ins C_Chain dx2 [("steps", .ref tr)])) := same_at (same_at (same_new nd) nr) nr
      have er2 := s2 _ _ er
      have kr2 := steps_same s2 kr
      refine ⟨r, r2, dr, _, C_Chain, dx2, _, rfl, rfl, er2, upd_same, by simp [PySem.W.notFirst], r, r2, ss ++ us, ss ++ us, rfl, ⟨dr, tr, er2, kr2⟩, ⟨dx2, tr, upd_same, kr2⟩, oo, oo, _, rfl, _, rfl, ?_⟩
      rw [PySem.SeqAt.eqv_refl _ (fine_steps oo).1]
      refine iteT ?_
      refine ⟨_, rfl, r, C_Chain, dr, _, .ref tr, rfl, er2, K_Chain.cl, K_Chain.no "steps" (by simp), rfl, _, rfl, r, dr, _, rfl, er2, r, ss ++ us, rfl, ⟨C_Chain, dr, tr, _, by simp, er2, rfl, kr2⟩, _, rfl, by omega, ?_, ?_, fun H3 t3 s3 n3 e3 => ?_⟩
      · rw [List.length_append]
        omega
      · show 2 ≤ 100000
        decide
      · refine q H3 _ ((s0.trans s1).trans (s2.trans s3)) ?_
        unfold sumD
        rw [if_pos hf]
        exact .tup (SqT.of e3) (.cons (dp_steps (steps_same s3 kr2)) (.cons (.int _) .nil))
    · have nda : dd ≠ a' := ne_of_none ed na
      have s2 := same_new (o := Ke (.ref C_BadSteps) (some dd) a') na
      have kept : KeptAt (upd H1 a' (Ke (.ref C_BadSteps) (some dd) a')) a' C_BadSteps dd [("reason", v)] := ⟨upd_same, s2 _ _ ed⟩
      have eC := E_BadSteps.T.ex
      refine ⟨_, rfl, ?_⟩
      refine ⟨_, rfl, rfl, _, rfl, ?_⟩
      refine iteT ?_
      refine ⟨_, rfl, a', C_BadSteps, dd, _, .ref C_BadSteps, .ref C_BadSteps, true, rfl, eC, kept, fun u h => h, kb1, _, rfl, ?_⟩
      refine iteT ⟨_, rfl, a', C_BadSteps, dd, _, .ty "ValueError", .type "ValueError", true, rfl, eC, kept, fun u h => h, kb2, _, rfl, ?_⟩
      refine iteT ?_
      refine q _ _ ((s0.trans s1).trans s2) ?_
      unfold sumD
      rw [if_neg (by rw [hf]; exact fun z => nomatch z)]
      exact .str _
end
end K23

set_option Elab.async false
set_option linter.all false
set_option maxRecDepth 100000
set_option maxHeartbeats 4000000
namespace K23
open PySem Nb
open L2 hiding del del_ne del_same
theorem turns3 (L : Int) : 1 ≤ (if (if L < 3 then L else 3) > 1 then (if L < 3 then L else 3) else 1) ∧ (if (if L < 3 then L else 3) > 1 then (if L < 3 then L else 3) else 1) ≤ 3 := by
  split <;> split at * <;> omega
theorem fits_nil (us : List St3) : fits [] us = false := rfl
theorem fits_nil2 (ss : List St3) : fits ss [] = false := by
  unfold fits
  cases ss.getLast? <;> rfl
theorem fits_at (si : List St3) (s u : St3) (us : List St3) : fits (si ++ [s]) (u :: us) = decide (s.2.1 = u.1) := by simp [fits]
theorem fits_left {ss us zs : List St3} (h : us ≠ []) : fits (ss ++ us) zs = fits us zs := by
  rcases List.eq_nil_or_concat us with e | ⟨ui, u, e⟩
  · exact absurd e h
  · rw [e, List.concat_eq_append]
    simp [fits]
theorem fits_right {ss us zs : List St3} (h : us ≠ []) : fits ss (us ++ zs) = fits ss us := by
  cases us with
  | nil => exact absurd rfl h
  | cons u us => rfl
theorem fine_sum {ss us : List St3} (h1 : Ok3 ss) (h2 : Ok3 us) : Fine 3 (sumD ss us) := by
  unfold sumD
  split
  · refine fine_tup fun d hd => ?_
    simp only [List.mem_cons, List.not_mem_nil, or_false] at hd
    rcases hd with rfl | rfl
    · exact fine_steps fun s hs => (List.mem_append.mp hs).elim (h1 s) (h2 s)
    · exact (fine_int _).mono (by decide)
  · exact (fine_str (by decide +kernel)).mono (by decide)
theorem ok_app {ss us : List St3} (h1 : Ok3 ss) (h2 : Ok3 us) : Ok3 (ss ++ us) := fun s hs => (List.mem_append.mp hs).elim (h1 s) (h2 s)
theorem steps_last {K : PySem.W.Frag} {H : Hp} {t : Addr} {si : List St3} {s : St3} (h : StepsAt H t (si ++ [s])) : ∃ (xs : List V) (la : Addr), SqT K H t xs ∧ atI xs (-1) = some (.ref la) ∧ SqT K H la [.str s.1, .str s.2.1, .str s.2.2] := by
  obtain ⟨as, e, f⟩ := h
  obtain ⟨ai, la, rfl, fi, el⟩ := f2_last f
  exact ⟨_, la, SqT.of e, by rw [List.map_append]; exact atI_last _ _, SqT.of el⟩
theorem steps_first {K : PySem.W.Frag} {H : Hp} {t : Addr} {us : List St3} {u : St3} (h : StepsAt H t (u :: us)) : ∃ (xs : List V) (la : Addr), SqT K H t xs ∧ atI xs 0 = some (.ref la) ∧ SqT K H la [.str u.1, .str u.2.1, .str u.2.2] := by
  obtain ⟨as, e, f⟩ := h
  cases f with
  | cons el fb => exact ⟨_, _, SqT.of e, atI_nat (j := 0) rfl, SqT.of el⟩
theorem eqv_sts_nil (ss : List St3) : PyData.eqv (stsD ss) (.tuple []) = ss.isEmpty := by
  cases ss <;> simp [stsD, PyData.eqv, PyData.eqvAll]
theorem steps_del {H : Hp} {p t : Addr} {n : Nat} {ss : List St3} (S : Src H p n) (h : StepsAt H t ss) : StepsAt (Nb.del H p) t ss := steps_thru S (Same.refl _) h
theorem fr_step {H0 H H' : Hp} {p : Addr} (f : Same (Nb.del H0 p) H) (s : Same (Nb.del H p) H') : Same (Nb.del H0 p) H' := (same_del f del_at).trans s
theorem src_del {H : Hp} {p D : Addr} {n : Nat} (S : Src H p n) (h : p ≠ D) : Src (Nb.del H D) p n := let ⟨c, m, r, e, k⟩ := S; ⟨c, m, r, by rw [Nb.del_ne h]; exact e, k⟩
section
variable {J : It} {n : Nat} {G : Hp → Prop} {Y : Nat → Hp → V → Hp → Prop} {g : TG} {te : TE} {vs : List Nat} {σ : L2.St} {H1 : Hp} {D : Addr} {Qd : Hp → Prop}
theorem lcRM (w : Walk J n G Y) (R : Nat → V → Hp → Prop) (hR : ∀ i y H H', Same H H' → R i y H → R i y H') (hn : n ≤ 100000) (hD : H1 D = none) (hG : ∀ H, Same H1 H → G H)
    (hs : ∀ i x H H' (Nx : VK), i < n → Same H1 H → H D ≠ none → Y i H x H' → (∀ y H4, Same H H4 → R i y (Nb.del H4 D) → Nx y H4) → g x (wipe σ vs) H' fun σ2 H2 => wipe σ2 vs = wipe σ vs ∧ te σ2 H2 Nx)
    (hd : ∀ H ys, Same H1 H → H D = some (.lst ys) → F2 (fun i y => R i y H) (List.range n) ys → Qd H) : LcGoal J g tYes te vs σ H1 D Qd :=
  lcR w (fun _ => true) R hR hn hD hG (fun i x H H' Nx Nf hi s ne y k1 k2 => hs i x H H' Nx hi s ne y (k1 rfl)) fun H ys s e f => hd H ys s e (by rwa [List.filter_eq_self.mpr fun _ _ => rfl] at f)
end
/-- the sources: each a list of three numbers -/
def Srcs (H : Hp) (ys : List V) (n : Nat) : Prop := ∀ (j : Nat) (y : V), ys[j]? = some y → ∃ p, y = V.ref p ∧ Src H p n
theorem srcs_ne {H : Hp} {D p : Addr} {ys : List V} {n j : Nat} (e : H D = some (.lst ys)) (h : ys[j]? = some (.ref p)) (S : Src H p n) : p ≠ D := fun z => by
  obtain ⟨c, m, r, e2, _⟩ := S
  rw [z, e] at e2
  injection (Option.some.inj e2) with e3
  rw [e3] at h
  match j, h with
  | 0, h => cases h
  | 1, h => cases h
  | 2, h => cases h
  | j + 3, h => cases h
theorem srcs_step {H H' : Hp} {ys : List V} {p : Addr} {n m : Nat} (h : Srcs H ys n) (s : Same (Nb.del H p) H') (S : Src H' p m) (l : n ≤ m) : Srcs H' ys m := fun j y e => by
  obtain ⟨q, rfl, S2⟩ := h j y e
  by_cases z : q = p
  · subst z
    exact ⟨q, rfl, S⟩
  · exact ⟨q, rfl, ((src_del S2 z).same s).mono l⟩
section
variable {P : Program} {w : World} {K : PySem.W.Frag} {mg : Str → Option Value} {base : Heap}
abbrev s_law : Stmt := topS 17
theorem sc_law : FnScope ["_law_script", "_law_source_here", "_law_one", "_law_start", "_law_other", "_law_left", "_law_right", "_law_is_good", "_law_due", "_law_third", "_law_k"] ["_law_script"] (defScope s_law) := ⟨rfl, rfl, rfl, by decide +kernel, rfl, by decide +kernel, by decide +kernel⟩
def sx_law_0 : Scope := { kind := .function, names := [(".0", .local), ("_law_k", .local), ("_law_source", .globalImplicit), ("_law_script", .cell)], isGenerator := false, isCoroutine := false, more := [] }
theorem ok_law {f : Addr} {fd : FuncData} (F : Fun K "law" "law" s_law f fd) {C_BadSteps : Addr} {C_Chain : Addr} {C_Ring : Addr} {C_Through : Addr} (T : Txt mg) (K_Chain : Kl K mg "Chain" C_Chain ["steps"]) (D_h_source : Dn P w K mg base CX0 1 "_law_source" ["_law_script", "_law_k"] (spSource K)) (D_h_next : Dn P w K mg base CX0 1 "_law_next" ["_law_source_here", "_law_many"] (spNext)) (D_h_pick : Dn P w K mg base CX0 2 "_law_pick" ["_law_source_here", "_law_items"] (spPick)) (D_Chain___init : Mi P w K mg base CX0 1 C_Chain ["self", "steps"] (spInit1 C_Chain)) (D_Chain___len : Mn P w K mg base CX0 1 C_Chain "__len__" ["self"] (spLen [C_Chain, C_Ring, C_Through])) (D_Ring___len : Mn P w K mg base CX0 1 C_Ring "__len__" ["self"] (spLen [C_Chain, C_Ring, C_Through])) (D_Through___len : Mn P w K mg base CX0 1 C_Through "__len__" ["self"] (spLen [C_Chain, C_Ring, C_Through])) (D_Chain___add : Mn P w K mg base (L2.CX P w) 4 C_Chain "__add__" ["self", "other"] (spAdd [C_Chain, C_Ring, C_Through] C_Chain C_BadSteps)) (D_Ring___add : Mn P w K mg base (L2.CX P w) 4 C_Ring "__add__" ["self", "other"] (spAdd [C_Chain, C_Ring, C_Through] C_Chain C_BadSteps)) (D_Through___add : Mn P w K mg base (L2.CX P w) 4 C_Through "__add__" ["self", "other"] (spAdd [C_Chain, C_Ring, C_Through] C_Chain C_BadSteps)) (D_Chain___eq : Mn P w K mg base CX0 1 C_Chain "__eq__" ["self", "other"] (spEq C_Chain)) (D_h_row_of_steps : Dn P w K mg base CX0 3 "_law_row_of_steps" ["_law_source_here", "_law_first", "_law_many"] (spRow)) (D_h_reason : Dn P w K mg base CX0 3 "_law_reason" ["_law_source_here", "_law_steps"] (spReason [C_Chain, C_Ring, C_Through])) (D_h_sum : Dn P w K mg base CX0 5 "_law_sum" ["_law_one", "_law_other"] (spSum K [C_Chain, C_Ring, C_Through])) (BO : Bo K [C_Chain, C_Ring, C_Through]) (NC : NeC K C_Chain) (KS : ∀ C ∈ [C_Chain, C_Ring, C_Through], Cls K C ∧ NoAttr K C "steps") : FnOk P w K mg base CX0 6 f fd ["_law_script"] (spLaw0 K) := by
  refine F.ok sc_law (fun vs H Q E h => ?_) (fun cdv A outer s H vs Q E hr h => ?_)
  · obtain ⟨a, ns, rfl, _⟩ := h
    rfl
  · obtain ⟨a, ns, rfl, hS, hlen, q⟩ := h
    refine ⟨_, pss_cons (ps_for PassesOwn.never rfl (pi_list (pe_lc (own := [("_law_k", 10)]) (g := gName 10) (tt := tYes) rfl sc_law.nd (pi_range1 (by rfl) T.range (pa_cons (pe_callB (call_max2 rfl) (by rfl) T.max (by decide +kernel) (pa_cons pe_int (pa_cons (pe_callB (call_min2 rfl) (by rfl) T.min (by decide +kernel) (pa_cons pe_int (pa_cons (pe_callB call_len_seq (by rfl) T.len PySem.boot_len (pa_cons (pv 0) pa_nil)) pa_nil))) pa_nil))) pa_nil)) (blkOk_by (N := ["_law_script", "_law_source_here", "_law_one", "_law_start", "_law_other", "_law_left", "_law_right", "_law_is_good", "_law_due", "_law_third", "_law_k"]) (sc := (defScope s_law)) (by decide +kernel)) (fun _ _ _ _ _ => (pg_name (i := 10) sc_law.nd rfl (Or.inl rfl))) (fun _ _ _ _ _ => pts_nil) (fun _ _ _ _ _ => (pe_D D_h_source (hr.mono (by decide)) (by rfl) pass0 (pa_cons (pv 0) (pa_cons (pv 10) pa_nil)))))) (pg_name (i := 1) sc_law.nd rfl (Or.inl rfl)) (pss_cons (ps_set (i := 2) sc_law.nd rfl (Or.inl rfl) (pe_D D_h_row_of_steps (hr.mono (by decide)) (by rfl) pass0 (pa_cons (pv 1) (pa_cons pe_str (pa_cons (pe_D D_h_next (hr.mono (by decide)) (by rfl) pass0 (pa_cons (pv 1) (pa_cons pe_int pa_nil))) pa_nil)))))
        (pss_cons (ps_set (i := 3) sc_law.nd rfl (Or.inl rfl) (pe_D D_h_pick (hr.mono (by decide)) (by rfl) pass0 (pa_cons (pv 1) (pa_cons (pe_lstS (pa_cons pe_str (pa_cons pe_str (pa_cons (pe_up (pe_ifExp (pt_cmpR (op_neD hr.units) (pv 2) (pe_tupS pa_nil) (nomark _)) (pe_ix ix_tup (pe_ix ix_tup (pv 2) (pe_un un_neg pe_int) (fun _ _ => rfl)) pe_int (fun _ _ => rfl)) pe_str)) pa_nil)))) pa_nil))))
        (pss_cons (ps_set (i := 4) sc_law.nd rfl (Or.inl rfl) (pe_D D_h_row_of_steps (hr.mono (by decide)) (by rfl) pass0 (pa_cons (pv 1) (pa_cons (pv 3) (pa_cons (pe_D D_h_next (hr.mono (by decide)) (by rfl) pass0 (pa_cons (pv 1) (pa_cons pe_int pa_nil))) pa_nil)))))
        (pss_cons (ps_par (i := 5) (j := 6) rfl sc_law.nd rfl rfl (by decide) rfl rfl (pa_cons (pe_D D_h_reason (hr.mono (by decide)) (by rfl) pass0 (pa_cons (pv 1) (pa_cons (pv 2) pa_nil))) (pa_cons (pe_D D_h_reason (hr.mono (by decide)) (by rfl) pass0 (pa_cons (pv 1) (pa_cons (pv 4) pa_nil))) pa_nil)) rfl)
        (pss_cons (ps_set (i := 7) sc_law.nd rfl (Or.inl rfl) (pe_up (pe_and (pe_cmpR (op_neD hr.units) (pv 2) (pe_tupS pa_nil) (nomark _)) (pe_and (pe_cmpR (op_neD hr.units) (pv 4) (pe_tupS pa_nil) (nomark _)) (pe_one (pe_cmpR op_eq (pe_ix ix_tup (pe_ix ix_tup (pv 2) (pe_un un_neg pe_int) (fun _ _ => rfl)) pe_int (fun _ _ => rfl)) (pe_ix ix_tup (pe_ix ix_tup (pv 4) pe_int (fun _ _ => rfl)) pe_int (fun _ _ => rfl)) (nomark _)))))))
        (pss_cons (ps_set (i := 8) sc_law.nd rfl (Or.inl rfl) (pe_up (pe_ifExp (pt_val (pv 7)) (pe_tupS (pa_cons (pe_op op_catT' (pv 2) (pv 4)) (pa_cons (pe_op op_add (pe_callB call_len_seq (by rfl) T.len PySem.boot_len (pa_cons (pv 2) pa_nil)) (pe_callB call_len_seq (by rfl) T.len PySem.boot_len (pa_cons (pv 4) pa_nil))) pa_nil))) pe_str)))
        (pss_cons (ps_if (PW.pt (pw_or (pt_cmpR (op_neD hr.units) (pe_D D_h_sum (hr.mono (by decide)) (by rfl) pass0 (pa_cons (pv 5) (pa_cons (pv 6) pa_nil))) (pv 8) (nomark _)) (pw_or1 (pt_cmpR (op_neD hr.units) (pe_lstS (pa_cons (pe_callB (call_lenO3 (mem3 D_Chain___len.om D_Ring___len.om D_Through___len.om) (hr.mono (by decide)) pass0) (by rfl) T.len PySem.boot_len (pa_cons (pv 5) pa_nil)) (pa_cons (pe_callB (call_lenO3 (mem3 D_Chain___len.om D_Ring___len.om D_Through___len.om) (hr.mono (by decide)) pass0) (by rfl) T.len PySem.boot_len (pa_cons (pv 6) pa_nil)) pa_nil))) (pe_lstS (pa_cons (pe_callB call_len_seq (by rfl) T.len PySem.boot_len (pa_cons (pv 2) pa_nil)) (pa_cons (pe_callB call_len_seq (by rfl) T.len PySem.boot_len (pa_cons (pv 4) pa_nil)) pa_nil))) (nomark _))))) (pss_one (ps_ret pe_bl)) pss_nil)
        (pss_cons (ps_set (i := 9) sc_law.nd rfl (Or.inl rfl) (pe_Mi D_Chain___init (hr.mono (by decide)) (by rfl) K_Chain.g pass0 (pa_cons (pe_up (pe_ifExp (pt_cmpR (op_neD hr.units) (pv 4) (pe_tupS pa_nil) (nomark _)) (pe_D D_h_row_of_steps (hr.mono (by decide)) (by rfl) pass0 (pa_cons (pv 1) (pa_cons (pe_ix ix_tup (pe_ix ix_tup (pv 4) (pe_un un_neg pe_int) (fun _ _ => rfl)) pe_int (fun _ _ => rfl)) (pa_cons pe_int pa_nil)))) (pe_tupS pa_nil))) pa_nil)))
        (pss_cons (ps_if (pt_up (PW.pt (pw_and (pt_val (pv 7)) (pw_and1 (pt_cmpR (op_neO D_Chain___eq.om NC (hr.mono (by decide)) (hu_of hr) pass0) (pe_addS BO (mem3 D_Chain___add.om D_Ring___add.om D_Through___add.om) (hr.mono (by decide)) passAt_none (pe_addS BO (mem3 D_Chain___add.om D_Ring___add.om D_Through___add.om) (hr.mono (by decide)) passAt_none (pv 5) (pv 6)) (pv 9)) (pe_addS BO (mem3 D_Chain___add.om D_Ring___add.om D_Through___add.om) (hr.mono (by decide)) passAt_none (pv 5) (pe_addS BO (mem3 D_Chain___add.om D_Ring___add.om D_Through___add.om) (hr.mono (by decide)) passAt_none (pv 6) (pv 9))) (nomark _)))))) (pss_one (ps_ret pe_bl)) pss_nil)
        (pss_one (ps_if (PW.pt (pw_or (pt_cmpR (op_neD hr.units) (pe_fld (pv 5) rfl) (pv 2) (nomark _)) (pw_or1 (pt_cmpR (op_neD hr.units) (pe_fld (pv 6) rfl) (pv 4) (nomark _))))) (pss_one (ps_ret pe_bl)) pss_nil))))))))))))
        (pss_one (ps_ret pe_bl)), ?_⟩
    refine ⟨_, rfl, a, _, rfl, .inl hS, _, _, rfl, _, _, rfl, ?_⟩
    refine ⟨_, rfl, Int.le_trans (by decide) (turns3 _).1, Int.lt_of_le_of_lt (turns3 _).2 (by decide), fun D hD => lcRM (walk_range (lo := 0)) (fun i y H => ∃ p, y = V.ref p ∧ Src H p (3 * i)) (fun i y H H' s ⟨p, e, S⟩ => ⟨p, e, S.same s⟩) ?_ hD (fun _ _ => trivial) ?_ ?_⟩
    · have := (turns3 (ns.map V.int).length).2
      omega
    · rintro i y H5 H6 Nx hi s5 ne ⟨rfl, rfl⟩ N
      refine ⟨rfl, _, rfl, _, rfl, a, ns, i, (by show [V.ref a, V.int (0 + (i : Int))] ++ [] = _; rw [Int.zero_add]; rfl), s5.seq hS, hlen, ?_, fun H1 p s1 np S1 => N _ _ s1 ⟨p, rfl, src_del S1 fun z => ne (z ▸ np)⟩⟩
      have := (turns3 (ns.map V.int).length).2
      omega
    rintro HB ys sB eB fB
    have lys : ys.length ≤ 3 := by
      have := f2_len fB
      rw [List.length_range] at this
      have := (turns3 (ns.map V.int).length).2
      omega
    have SB : Srcs HB ys 9 := fun j y ej => by
      obtain ⟨i, ei, p, e, S⟩ := f2_get fB ej
      have : i < 3 := by
        have := List.mem_range.mp (List.mem_of_getElem? ei)
        have := (turns3 (ns.map V.int).length).2
        omega
      exact ⟨p, e, S.mono (by omega)⟩
    refine ⟨D, rfl, ⟨_, SqL.of eB⟩, for_list (K := K) (a := D) (xs := ys) (fun i σ H' => ∃ v1 v2 v3 v4 v5 v6 v7 v8 v9 v10, σ = [some (.ref a), v1, v2, v3, v4, v5, v6, v7, v8, v9, v10] ∧ H' D = some (.lst ys) ∧ Srcs H' ys (9 + 50 * i)) ⟨_, _, _, _, _, _, _, _, _, _, rfl, eB, SB⟩ (fun i σ H' _ ⟨_, _, _, _, _, _, _, _, _, _, _, e, _⟩ => SqL.of e) ?_ ?_⟩
    · rintro i y σ H0 hy ⟨v1, v2, v3, v4, v5, v6, v7, v8, v9, v10, rfl, eD, Ss⟩
      obtain ⟨p, rfl, S⟩ := Ss i y hy
      have hi : i < 3 := by
        have := (List.getElem?_eq_some_iff.mp hy).1
        omega
      have nD := srcs_ne eD hy S
      obtain ⟨bb, hbb⟩ : ∃ bb, bb = 9 + 50 * i := ⟨_, rfl⟩
      have hb2 : bb ≤ 120 := by omega
      rw [← hbb] at S Ss
      -- the first row
      refine ⟨_, rfl, _, rfl, p, 4, bb, Nb.del H0 p, rfl, by decide, by decide, S, by omega, del_at, del_same, fun H1 k k0 k4 s1 S1 => ?_⟩
      obtain ⟨m, rfl⟩ : ∃ m : Nat, k = (m : Int) := ⟨_, (Int.toNat_of_nonneg k0).symm⟩
      refine ⟨p, "a", m, bb + 1, Nb.del H1 p, rfl, by decide +kernel, by omega, S1, by omega, del_at, del_same, fun H2 t1 ss s2 S2 k2 o2 len2 _ => ?_⟩
      have f2 : Same (Nb.del H0 p) H2 := (same_del s1 del_at).trans s2
      -- where the second one starts
      refine ⟨_, rfl, ⟨fun x H' => ∃ z, x = .str z ∧ PyData.strOk z = true ∧ Same H2 H', ?_, ?_⟩⟩
      · refine ⟨_, rfl, by decide, fun H3 l3 s3 n3 e3 => ⟨stsD ss, .tuple [], dp_steps (steps_same s3 k2), .tup (SqT.of e3) .nil, (fine_steps o2).shaped (by decide), by decide, _, rfl, ?_⟩⟩
        rw [eqv_sts_nil]
        rcases List.eq_nil_or_concat ss with rfl | ⟨si, s, ec⟩
        · exact iteF ⟨_, rfl, by decide +kernel, s3⟩
        · rw [List.concat_eq_append] at ec
          subst ec
          obtain ⟨xs, la, q1, q2, q3⟩ := steps_last (K := K) (steps_same s3 k2)
          refine iteT0 (by cases si <;> rfl) ⟨_, rfl, _, rfl, t1, xs, _, .ref la, rfl, rfl, q1, q2, la, _, _, .str s.2.1, rfl, rfl, q3, atI_nat (j := 1) rfl, _, rfl, (o2 s (by simp)).2.1, s3⟩
      rintro x H3 ⟨z, rfl, oz, s3⟩
      refine ⟨(by show 3 ≤ 100000; decide), fun H4 l4 s4 n4 e4 => ?_⟩
      have S4 : Src H4 p (bb + 7) := ((S2.same s3).same s4).mono (by omega)
      refine ⟨p, l4, _, bb + 7, Nb.del H4 p, rfl, del_keep e4 (src_away (S2.same s3) n4), (by show 1 ≤ 3; decide), (by show 3 ≤ 1000; decide), S4, by omega, del_at, del_same, fun H5 x hx s5 S5 => ?_⟩
      obtain ⟨z2, rfl, oz2⟩ : ∃ c, x = .str c ∧ PyData.strOk c = true := by
        simp only [List.mem_cons, List.not_mem_nil, or_false] at hx
        rcases hx with rfl | rfl | rfl
        · exact ⟨_, rfl, by decide +kernel⟩
        · exact ⟨_, rfl, by decide +kernel⟩
        · exact ⟨_, rfl, oz⟩
      -- the second row
      refine ⟨_, rfl, _, rfl, _, rfl, p, 4, bb + 8, Nb.del H5 p, rfl, by decide, by decide, S5, by omega, del_at, del_same, fun H6 k' k'0 k'4 s6 S6 => ?_⟩
      obtain ⟨m', rfl⟩ : ∃ m : Nat, k' = (m : Int) := ⟨_, (Int.toNat_of_nonneg k'0).symm⟩
      refine ⟨p, z2, m', bb + 9, Nb.del H6 p, rfl, oz2, by omega, S6, by omega, del_at, del_same, fun H7 t2 us s7 S7 k7 o7 len7 _ => ?_⟩
      have S7 : Src H7 p (bb + 15) := S7.mono (by omega)
      have j7 := steps_thru S6 s7 (steps_thru S5 s6 (steps_thru S4 s5 (steps_same (s3.trans s4) k2)))
      have f7 := fr_step (fr_step (fr_step (f2.trans (s3.trans s4)) s5) s6) s7
      -- the reasons
      refine ⟨_, rfl, _, rfl, p, t1, ss, bb + 15, Nb.del H7 p, rfl, S7, by omega, del_at, del_same, steps_del S7 j7, fun H8 l s8 S8 L8 => ?_⟩
      have j8 := steps_thru S7 s8 j7
      have k8 := steps_thru S7 s8 k7
      refine ⟨_, rfl, _, rfl, p, t2, us, bb + 16, Nb.del H8 p, rfl, S8, by omega, del_at, del_same, steps_del S8 k8, fun H9 r s9 S9 R9 => ?_⟩
      have j9 := steps_thru S8 s9 j8
      have k9 := steps_thru S8 s9 k8
      have L9 := rs_thru S8 s9 L8
      have f9 := fr_step (fr_step f7 s8) s9
      -- whether they fit
      refine ⟨_, _, rfl, ?_⟩
      refine ⟨fun x H' => x = .bl (fits ss us) ∧ Same H9 H', ?_, ?_⟩
      · refine ⟨_, rfl, by decide, fun Ha la sa na ea => ⟨stsD ss, .tuple [], dp_steps (steps_same sa j9), .tup (SqT.of ea) .nil, (fine_steps o2).shaped (by decide), by decide, _, rfl, ?_⟩⟩
        rw [eqv_sts_nil]
        rcases List.eq_nil_or_concat ss with rfl | ⟨si, s, ec⟩
        · exact iteF ⟨rfl, sa⟩
        · rw [List.concat_eq_append] at ec
          subst ec
          refine iteT0 (by cases si <;> rfl) ?_
          refine ⟨_, rfl, by decide, fun Hb lb sb nb eb => ⟨stsD us, .tuple [], dp_steps (steps_same (sa.trans sb) k9), .tup (SqT.of eb) .nil, (fine_steps o7).shaped (by decide), by decide, _, rfl, ?_⟩⟩
          rw [eqv_sts_nil]
          cases us with
          | nil => exact iteF ⟨by rw [fits_nil2], sa.trans sb⟩
          | cons u us =>
            refine iteT ?_
            obtain ⟨xs, la, q1, q2, q3⟩ := steps_last (K := K) (steps_same (sa.trans sb) j9)
            obtain ⟨ys', lb, q4, q5, q6⟩ := steps_first (K := K) (steps_same (sa.trans sb) k9)
            refine ⟨_, rfl, _, rfl, t1, xs, _, .ref la, rfl, rfl, q1, q2, la, _, _, .str s.2.1, rfl, rfl, q3, atI_nat (j := 1) rfl, _, rfl, t2, ys', _, .ref lb, rfl, rfl, q4, q5, lb, _, _, .str u.1, rfl, rfl, q6, atI_nat (j := 0) rfl, rfl, ?_, sa.trans sb⟩
            rw [fits_at]
            simp
      rintro x HG ⟨rfl, sG⟩
      have jG := steps_same sG j9
      have kG := steps_same sG k9
      have LG := rs_same sG L9
      have RG := rs_same sG R9
      have SG := S9.same sG
      have fG := f9.trans sG
      have l1 : ss.length ≤ 3 := by omega
      have l2 : us.length ≤ 3 := by omega
      -- what is due
      refine ⟨fun x H' => Same HG H' ∧ Dp K H' x (sumD ss us), ?_, ?_⟩
      · refine ⟨_, rfl, _, rfl, ?_⟩
        cases hf : fits ss us with
        | true =>
          obtain ⟨as, ea, fa⟩ := jG
          obtain ⟨bs, eb, fb⟩ := kG
          have la := f2_len fa
          have lb := f2_len fb
          refine iteT ⟨_, rfl, _, rfl, t1, t2, _, _, rfl, rfl, ea, eb, by rw [List.length_map, List.length_map]; omega, fun Hc tc sc ec => ?_⟩
          refine ⟨_, rfl, t1, _, rfl, .inr (SqT.of (sc _ _ ea)), _, rfl, t2, _, rfl, .inr (SqT.of (sc _ _ eb)), _, _, rfl, rfl, (by show 2 ≤ 100000; decide), fun Hd td sd nd ed => ⟨sc.trans sd, ?_⟩⟩
          have e : ((as.map V.ref).length : Int) + ((bs.map V.ref).length : Int) = (((ss ++ us).length : Nat) : Int) := by
            rw [List.length_map, List.length_map, List.length_append, la, lb]
            omega
          dsimp only at ed
          rw [e] at ed
          unfold sumD
          rw [if_pos hf]
          exact .tup (SqT.of ed) (.cons (dp_steps ⟨as ++ bs, by rw [List.map_append]; exact sd _ _ ec, f2_imp (fun _ _ k => sd _ _ (sc _ _ k)) (f2_app fa fb)⟩) (.cons (.int _) .nil))
        | false =>
          refine iteF ⟨Same.refl _, ?_⟩
          unfold sumD
          rw [if_neg (by rw [hf]; exact fun z => nomatch z)]
          exact .str _
      rintro x HI ⟨sI, dI⟩
      -- the sum
      refine ⟨_, rfl, _, rfl, l, r, ss, us, rfl, rs_same sI LG, rs_same sI RG, by omega, by omega, o2, o7, fun HJ vj sJ dJ => ?_⟩
      have fs3 := fine_sum o2 o7
      refine ⟨_, rfl, sumD ss us, sumD ss us, dJ, dp_same sJ _ _ dI, fs3.shaped (by decide), fs3.shaped (by decide), _, rfl, ?_⟩
      rw [PySem.SeqAt.eqv_refl _ fs3.1]
      refine iteF ?_
      have sIJ := sI.trans sJ
      obtain ⟨CL, dl, ul, fl, mL, eL, lL, kL⟩ := id (rs_same sIJ LG)
      obtain ⟨CR, dr, ur, fr, mR, eR, lR, kR⟩ := id (rs_same sIJ RG)
      refine ⟨_, rfl, l, CL, dl, fl, rfl, mL, eL, l, ss, rfl, rs_same sIJ LG, _, rfl, by omega, by omega, _, rfl, r, CR, dr, fr, rfl, mR, eR, r, us, rfl, rs_same sIJ RG, _, rfl, by omega, by omega, (by show 2 ≤ 100000; decide), fun HK lk sK nK eK => ?_⟩
      have jK := steps_same (sIJ.trans sK) jG
      have kK := steps_same (sIJ.trans sK) kG
      obtain ⟨as, ea, fa⟩ := id jK
      obtain ⟨bs, eb, fb⟩ := id kK
      refine ⟨_, rfl, t1, _, rfl, .inr (SqT.of ea), _, rfl, t2, _, rfl, .inr (SqT.of eb), (by show 2 ≤ 100000; decide), fun HL ll sL nL eLL => ?_⟩
      rw [List.length_map, List.length_map, f2_len fa, f2_len fb] at eLL
      refine ⟨.list ([(ss.length : Int), (us.length : Int)].map PyData.int), .list ([(ss.length : Int), (us.length : Int)].map PyData.int), .lst (SqL.of (sL _ _ eK)) (.cons (.int _) (.cons (.int _) .nil)), .lst (SqL.of eLL) (.cons (.int _) (.cons (.int _) .nil)), (fine_ints _).shaped (by decide), (fine_ints _).shaped (by decide), _, rfl, ?_⟩
      rw [PySem.SeqAt.eqv_refl _ (fine_ints _).1]
      refine iteF ?_
      -- the third
      have sGL := (sIJ.trans sK).trans sL
      have SL := SG.same sGL
      refine ⟨fun x H' => ∃ t zs, x = V.ref t ∧ StepsAt H' t zs ∧ Ok3 zs ∧ zs.length ≤ 2 ∧ (us ≠ [] → fits us zs = true) ∧ Same (Nb.del HL p) H' ∧ Src H' p (bb + 21), ?_, ?_⟩
      · refine ⟨_, rfl, by decide, fun Ha la sa na ea => ⟨stsD us, .tuple [], dp_steps (steps_same (sGL.trans sa) kG), .tup (SqT.of ea) .nil, (fine_steps o7).shaped (by decide), by decide, _, rfl, ?_⟩⟩
        rw [eqv_sts_nil]
        rcases List.eq_nil_or_concat us with rfl | ⟨ui, u, ec⟩
        · exact iteF ⟨by decide, fun Hb tb sb nb eb => ⟨tb, [], rfl, ⟨[], eb, .nil⟩, (fun _ h => nomatch h), by decide, fun h => absurd rfl h, del_same.trans (sa.trans sb), ((SL.same sa).same sb).mono (by omega)⟩⟩
        · rw [List.concat_eq_append] at ec
          subst ec
          obtain ⟨xs, la, q1, q2, q3⟩ := steps_last (K := K) (steps_same (sGL.trans sa) kG)
          refine iteT0 (by cases ui <;> rfl) ⟨_, rfl, _, rfl, _, rfl, t2, xs, _, .ref la, rfl, rfl, q1, q2, la, _, _, .str u.2.1, rfl, rfl, q3, atI_nat (j := 1) rfl, p, u.2.1, 2, bb + 17, Nb.del Ha p, rfl, (o7 u (by simp)).2.1, by decide, SL.same sa, by omega, del_at, del_same, fun H' t zs s' S' k' o' len' hd' => ⟨t, zs, rfl, k', o', by omega, fun _ => ?_, fr_step (del_same.trans sa) s', S'.mono (by omega)⟩⟩
          cases zs with
          | nil => cases len'
          | cons z0 zs =>
            rw [fits_at]
            exact decide_eq_true (hd' z0 rfl).symm
      rintro x HM ⟨tz, zs, rfl, kz, oz3, lz, fz, sM, SM⟩
      refine fun r3 dx3 nr nd ne => ⟨r3, dx3, .ref tz, rfl, upd_same, rfl, ?_⟩
      obtain ⟨HN, eHN⟩ : ∃ HN, HN = upd (upd (upd HM dx3 (HO.own r3)) r3 (HO.ins C_Chain dx3 [])) r3 (HO.ins C_Chain dx3 [("steps", .ref tz)]) := ⟨_, rfl⟩
      have sN : Same HM HN := by
        rw [eHN]
        exact same_at (same_at (same_new nd) nr) nr
      have Z : ChainAt C_Chain HN r3 zs := ⟨dx3, tz, by rw [eHN]; exact upd_same, steps_same sN kz⟩
      rw [← eHN]
      have sMN := sM.trans sN
      have SLp := SL
      have LN := rs_thru SL sMN (rs_same sGL LG)
      have RN := rs_thru SL sMN (rs_same sGL RG)
      have jN := steps_thru SL sMN (steps_same sGL jG)
      have kN := steps_thru SL sMN (steps_same sGL kG)
      have fN := fr_step (fG.trans sGL) sMN
      -- the sums of three
      refine ⟨fun b H' => b = false ∧ Same HN H', ?_, ?_⟩
      · refine ⟨_, rfl, _, rfl, ?_⟩
        cases hf : fits ss us with
        | false => exact iteF ⟨rfl, Same.refl _⟩
        | true =>
          have nu : us ≠ [] := fun z => by
            rw [z, fits_nil2] at hf
            cases hf
          have mC : C_Chain ∈ [C_Chain, C_Ring, C_Through] := List.mem_cons_self ..
          refine iteT ?_
          obtain ⟨CL', dl', ul', fl', mL', eL', lL', kL'⟩ := id LN
          obtain ⟨CR', dr', ur', fr', mR', eR', lR', kR'⟩ := id RN
          refine ⟨_, rfl, _, rfl, l, r, CL', dl', fl', CR', dr', fr', rfl, rfl, mL', mR', eL', eR', l, r, ss, us, rfl, LN, RN, by omega, by omega, fun _ Ha ra sa ca => ?_, fun h => by rw [hf] at h; cases h⟩
          obtain ⟨da, ta, ea, ka⟩ := id ca
          obtain ⟨dz, tz', ez, kz'⟩ := id (chain_same sa Z)
          refine ⟨_, rfl, ra, r3, C_Chain, da, _, C_Chain, dz, _, rfl, rfl, mC, mC, ea, ez, ra, r3, ss ++ us, zs, rfl, chain_rs mC ca, chain_rs mC (chain_same sa Z), by rw [List.length_append]; omega, by omega, fun _ Hb rb sb cb => ?_, fun h => by rw [fits_left nu, fz nu] at h; cases h⟩
          have sab := sa.trans sb
          obtain ⟨dz2, tz2, ez2, kz2⟩ := id (chain_same sab Z)
          obtain ⟨CR2, dr2, ur2, fr2, mR2, eR2, lR2, kR2⟩ := id (rs_same sab RN)
          refine ⟨_, rfl, _, rfl, _, rfl, r, r3, CR2, dr2, fr2, C_Chain, dz2, _, rfl, rfl, mR2, mC, eR2, ez2, r, r3, us, zs, rfl, rs_same sab RN, chain_rs mC (chain_same sab Z), by omega, by omega, fun _ Hc rc sc cc => ?_, fun h => by rw [fz nu] at h; cases h⟩
          have sac := sab.trans sc
          obtain ⟨CL3, dl3, ul3, fl3, mL3, eL3, lL3, kL3⟩ := id (rs_same sac LN)
          obtain ⟨dc, tc, ec, kc⟩ := id cc
          refine ⟨l, rc, CL3, dl3, fl3, C_Chain, dc, _, rfl, rfl, mL3, mC, eL3, ec, l, rc, ss, us ++ zs, rfl, rs_same sac LN, chain_rs mC cc, by omega, by rw [List.length_append]; omega, fun _ Hd rd sd cd => ?_, fun h => by rw [fits_right nu, hf] at h; cases h⟩
          have cb' := chain_same (sc.trans sd) cb
          obtain ⟨d1, u1, e1', w1⟩ := id cb'
          obtain ⟨d2, u2, e2', w2⟩ := id cd
          have oA : Ok3 (ss ++ us ++ zs) := ok_app (ok_app o2 o7) oz3
          refine ⟨rb, rd, d1, _, C_Chain, d2, _, rfl, rfl, e1', e2', by simp [PySem.W.notFirst], rb, rd, _, _, rfl, cb', cd, oA, ok_app o2 (ok_app o7 oz3), _, rfl, _, rfl, ?_, sac.trans sd⟩
          rw [List.append_assoc, PySem.SeqAt.eqv_refl _ (fine_steps (by rw [← List.append_assoc]; exact oA)).1]
          rfl
      rintro bq HP ⟨rfl, sP⟩
      refine iteF ?_
      obtain ⟨CL4, dl4, ul4, fl4, mL4, eL4, lL4, kL4⟩ := rs_same sP LN
      obtain ⟨CR4, dr4, ur4, fr4, mR4, eR4, lR4, kR4⟩ := rs_same sP RN
      refine ⟨_, rfl, l, CL4, dl4, fl4, .ref ul4, rfl, eL4, (KS CL4 mL4).1, (KS CL4 mL4).2, lL4, _, rfl, stsD ss, stsD ss, dp_steps kL4, dp_steps (steps_same sP jN), (fine_steps o2).shaped (by decide), (fine_steps o2).shaped (by decide), _, rfl, ?_⟩
      rw [PySem.SeqAt.eqv_refl _ (fine_steps o2).1]
      refine iteF ?_
      refine ⟨_, rfl, r, CR4, dr4, fr4, .ref ur4, rfl, eR4, (KS CR4 mR4).1, (KS CR4 mR4).2, lR4, _, rfl, stsD us, stsD us, dp_steps kR4, dp_steps (steps_same sP kN), (fine_steps o7).shaped (by decide), (fine_steps o7).shaped (by decide), _, rfl, ?_⟩
      rw [PySem.SeqAt.eqv_refl _ (fine_steps o7).1]
      refine iteF ?_
      have fP := fN.trans sP
      exact ⟨_, _, _, _, _, _, _, _, _, _, rfl, fP _ _ (del_keep eD (Ne.symm nD)), srcs_step Ss fP (((SM.same sN).same sP).mono (show bb + 21 ≤ 9 + 50 * (i + 1) by omega)) (by omega)⟩
    · rintro σ H' ⟨v1, v2, v3, v4, v5, v6, v7, v8, v9, v10, rfl, eD, Ss⟩
      exact q H'
end
end K23

set_option Elab.async false
set_option maxRecDepth 100000
set_option maxHeartbeats 8000000
namespace K23
open PySem Nb
open L2 hiding del del_ne del_same
theorem all_mk {l : PySem.W.OpenLaw} {w : World} {K : PySem.W.Frag} {h : Heap} {mg : Str → Option Value} {fa f_law f_h_source f_h_next f_h_pick f_Chain___init f_Ring___init f_Through___init f_Chain___len f_Ring___len f_Through___len f_joined_steps f_Chain___add f_Ring___add f_Through___add f_Chain___eq f_h_row_of_steps f_h_reason f_h_sum C_BadSteps i_BadSteps C_WorldError C_Chain C_Ring C_Through : Addr} (X : K.In h) (G : h.Ns mainGlobals mg) (hfa : mg "law" = some (.ref fa))
    {odh_source anh_source odh_next anh_next odh_pick anh_pick odChain___init anChain___init odRing___init anRing___init odThrough___init anThrough___init odChain___len anChain___len odRing___len anRing___len odThrough___len anThrough___len odjoined_steps anjoined_steps odChain___add anChain___add odRing___add anRing___add odThrough___add anThrough___add odChain___eq anChain___eq odh_row_of_steps anh_row_of_steps odh_reason anh_reason odh_sum anh_sum odlaw anlaw odIBadSteps anIBadSteps : Option Addr}
    {slh_source slh_next slh_pick slChain___init slRing___init slThrough___init slChain___len slRing___len slThrough___len sljoined_steps slChain___add slRing___add slThrough___add slChain___eq slh_row_of_steps slh_reason slh_sum sllaw slIBadSteps : Array (Option Value)}
    {och_source kVh_source dch_source pmh_source cdh_source cth_source och_next kVh_next dch_next pmh_next cdh_next cth_next och_pick kVh_pick dch_pick pmh_pick cdh_pick cth_pick ocChain___init kVChain___init dcChain___init pmChain___init cdChain___init ctChain___init ocRing___init kVRing___init dcRing___init pmRing___init cdRing___init ctRing___init ocThrough___init kVThrough___init dcThrough___init pmThrough___init cdThrough___init ctThrough___init ocChain___len kVChain___len dcChain___len pmChain___len cdChain___len ctChain___len ocRing___len kVRing___len dcRing___len pmRing___len cdRing___len ctRing___len ocThrough___len kVThrough___len dcThrough___len pmThrough___len cdThrough___len ctThrough___len ocjoined_steps kVjoined_steps dcjoined_steps pmjoined_steps cdjoined_steps ctjoined_steps ocChain___add kVChain___add dcChain___add pmChain___add cdChain___add ctChain___add ocRing___add kVRing___add dcRing___add pmRing___add cdRing___add ctRing___add ocThrough___add kVThrough___add dcThrough___add pmThrough___add cdThrough___add ctThrough___add ocChain___eq kVChain___eq dcChain___eq pmChain___eq cdChain___eq ctChain___eq och_row_of_steps kVh_row_of_steps dch_row_of_steps pmh_row_of_steps cdh_row_of_steps cth_row_of_steps och_reason kVh_reason dch_reason pmh_reason cdh_reason cth_reason och_sum kVh_sum dch_sum pmh_sum cdh_sum cth_sum oclaw kVlaw dclaw pmlaw cdlaw ctlaw ocIBadSteps kVIBadSteps dcIBadSteps pmIBadSteps cdIBadSteps ctIBadSteps : Value}
    (a_Chain : PySem.W.nsIn K mainGlobals "Chain" = some (some (.ref C_Chain)))
    (pg_Chain : PySem.W.plainGet K C_Chain Str.empty = true)
    (hd_Chain : PySem.W.hasDictIn K C_Chain = true)
    (po_Chain : PySem.W.plainOver K C_Chain = true)
    (sa_Chain : PySem.W.findIn K (.ref C_Chain) "__setattr__" = some (some (.builtin "object.__setattr__")))
    (nf_Chain_steps : PySem.W.findIn K (.ref C_Chain) "steps" = some none)
    (mk_Chain : PySem.W.makesIn K C_Chain = true)
    (kc_Chain : PySem.W.keepIn K (.ref C_Chain) = true)
    (a_Ring : PySem.W.nsIn K mainGlobals "Ring" = some (some (.ref C_Ring)))
    (pg_Ring : PySem.W.plainGet K C_Ring Str.empty = true)
    (hd_Ring : PySem.W.hasDictIn K C_Ring = true)
    (po_Ring : PySem.W.plainOver K C_Ring = true)
    (sa_Ring : PySem.W.findIn K (.ref C_Ring) "__setattr__" = some (some (.builtin "object.__setattr__")))
    (nf_Ring_steps : PySem.W.findIn K (.ref C_Ring) "steps" = some none)
    (mk_Ring : PySem.W.makesIn K C_Ring = true)
    (kc_Ring : PySem.W.keepIn K (.ref C_Ring) = true)
    (a_Through : PySem.W.nsIn K mainGlobals "Through" = some (some (.ref C_Through)))
    (pg_Through : PySem.W.plainGet K C_Through Str.empty = true)
    (hd_Through : PySem.W.hasDictIn K C_Through = true)
    (po_Through : PySem.W.plainOver K C_Through = true)
    (sa_Through : PySem.W.findIn K (.ref C_Through) "__setattr__" = some (some (.builtin "object.__setattr__")))
    (nf_Through_steps : PySem.W.findIn K (.ref C_Through) "steps" = some none)
    (nf_Through_name : PySem.W.findIn K (.ref C_Through) "name" = some none)
    (mk_Through : PySem.W.makesIn K C_Through = true)
    (kc_Through : PySem.W.keepIn K (.ref C_Through) = true)
    (a_h_source : PySem.W.nsIn K mainGlobals "_law_source" = some (some (.ref f_h_source)))
    (l_h_source : K.lookup f_h_source = some ⟨och_source, odh_source, .func (PySem.W.fnOf "_law_source" "_law_source" (defArgs s_h_source) (defBody s_h_source) (defScope s_h_source) .none kVh_source dch_source pmh_source anh_source cdh_source cth_source), slh_source⟩)
    (c_h_source : PySem.W.codeIn K cdh_source "_law_source" = true)
    (k_h_source : PySem.W.keepIn K (.ref f_h_source) = true)
    (a_h_next : PySem.W.nsIn K mainGlobals "_law_next" = some (some (.ref f_h_next)))
    (l_h_next : K.lookup f_h_next = some ⟨och_next, odh_next, .func (PySem.W.fnOf "_law_next" "_law_next" (defArgs s_h_next) (defBody s_h_next) (defScope s_h_next) .none kVh_next dch_next pmh_next anh_next cdh_next cth_next), slh_next⟩)
    (c_h_next : PySem.W.codeIn K cdh_next "_law_next" = true)
    (k_h_next : PySem.W.keepIn K (.ref f_h_next) = true)
    (a_h_pick : PySem.W.nsIn K mainGlobals "_law_pick" = some (some (.ref f_h_pick)))
    (l_h_pick : K.lookup f_h_pick = some ⟨och_pick, odh_pick, .func (PySem.W.fnOf "_law_pick" "_law_pick" (defArgs s_h_pick) (defBody s_h_pick) (defScope s_h_pick) .none kVh_pick dch_pick pmh_pick anh_pick cdh_pick cth_pick), slh_pick⟩)
    (c_h_pick : PySem.W.codeIn K cdh_pick "_law_pick" = true)
    (k_h_pick : PySem.W.keepIn K (.ref f_h_pick) = true)
    (a_Chain___init : PySem.W.findIn K (.ref C_Chain) "__init__" = some (some (.ref f_Chain___init)))
    (if_Chain___init : PySem.W.isFn K (.ref f_Chain___init) = true)
    (l_Chain___init : K.lookup f_Chain___init = some ⟨ocChain___init, odChain___init, .func (PySem.W.fnOf "__init__" "Chain.__init__" (defArgs s_Chain___init) (defBody s_Chain___init) (defScope s_Chain___init) .none kVChain___init dcChain___init pmChain___init anChain___init cdChain___init ctChain___init), slChain___init⟩)
    (c_Chain___init : PySem.W.codeIn K cdChain___init "Chain.__init__" = true)
    (k_Chain___init : PySem.W.keepIn K (.ref f_Chain___init) = true)
    (a_Ring___init : PySem.W.findIn K (.ref C_Ring) "__init__" = some (some (.ref f_Ring___init)))
    (if_Ring___init : PySem.W.isFn K (.ref f_Ring___init) = true)
    (l_Ring___init : K.lookup f_Ring___init = some ⟨ocRing___init, odRing___init, .func (PySem.W.fnOf "__init__" "Ring.__init__" (defArgs s_Ring___init) (defBody s_Ring___init) (defScope s_Ring___init) .none kVRing___init dcRing___init pmRing___init anRing___init cdRing___init ctRing___init), slRing___init⟩)
    (c_Ring___init : PySem.W.codeIn K cdRing___init "Ring.__init__" = true)
    (k_Ring___init : PySem.W.keepIn K (.ref f_Ring___init) = true)
    (a_Through___init : PySem.W.findIn K (.ref C_Through) "__init__" = some (some (.ref f_Through___init)))
    (if_Through___init : PySem.W.isFn K (.ref f_Through___init) = true)
    (l_Through___init : K.lookup f_Through___init = some ⟨ocThrough___init, odThrough___init, .func (PySem.W.fnOf "__init__" "Through.__init__" (defArgs s_Through___init) (defBody s_Through___init) (defScope s_Through___init) .none kVThrough___init dcThrough___init pmThrough___init anThrough___init cdThrough___init ctThrough___init), slThrough___init⟩)
    (c_Through___init : PySem.W.codeIn K cdThrough___init "Through.__init__" = true)
    (k_Through___init : PySem.W.keepIn K (.ref f_Through___init) = true)
    (a_Chain___len : PySem.W.findIn K (.ref C_Chain) "__len__" = some (some (.ref f_Chain___len)))
    (if_Chain___len : PySem.W.isFn K (.ref f_Chain___len) = true)
    (l_Chain___len : K.lookup f_Chain___len = some ⟨ocChain___len, odChain___len, .func (PySem.W.fnOf "__len__" "Chain.__len__" (defArgs s_Chain___len) (defBody s_Chain___len) (defScope s_Chain___len) .none kVChain___len dcChain___len pmChain___len anChain___len cdChain___len ctChain___len), slChain___len⟩)
    (c_Chain___len : PySem.W.codeIn K cdChain___len "Chain.__len__" = true)
    (k_Chain___len : PySem.W.keepIn K (.ref f_Chain___len) = true)
    (a_Ring___len : PySem.W.findIn K (.ref C_Ring) "__len__" = some (some (.ref f_Ring___len)))
    (if_Ring___len : PySem.W.isFn K (.ref f_Ring___len) = true)
    (l_Ring___len : K.lookup f_Ring___len = some ⟨ocRing___len, odRing___len, .func (PySem.W.fnOf "__len__" "Ring.__len__" (defArgs s_Ring___len) (defBody s_Ring___len) (defScope s_Ring___len) .none kVRing___len dcRing___len pmRing___len anRing___len cdRing___len ctRing___len), slRing___len⟩)
    (c_Ring___len : PySem.W.codeIn K cdRing___len "Ring.__len__" = true)
    (k_Ring___len : PySem.W.keepIn K (.ref f_Ring___len) = true)
    (a_Through___len : PySem.W.findIn K (.ref C_Through) "__len__" = some (some (.ref f_Through___len)))
    (if_Through___len : PySem.W.isFn K (.ref f_Through___len) = true)
    (l_Through___len : K.lookup f_Through___len = some ⟨ocThrough___len, odThrough___len, .func (PySem.W.fnOf "__len__" "Through.__len__" (defArgs s_Through___len) (defBody s_Through___len) (defScope s_Through___len) .none kVThrough___len dcThrough___len pmThrough___len anThrough___len cdThrough___len ctThrough___len), slThrough___len⟩)
    (c_Through___len : PySem.W.codeIn K cdThrough___len "Through.__len__" = true)
    (k_Through___len : PySem.W.keepIn K (.ref f_Through___len) = true)
    (a_joined_steps : PySem.W.nsIn K mainGlobals "_joined_steps" = some (some (.ref f_joined_steps)))
    (l_joined_steps : K.lookup f_joined_steps = some ⟨ocjoined_steps, odjoined_steps, .func (PySem.W.fnOf "_joined_steps" "_joined_steps" (defArgs s_joined_steps) (defBody s_joined_steps) (defScope s_joined_steps) .none kVjoined_steps dcjoined_steps pmjoined_steps anjoined_steps cdjoined_steps ctjoined_steps), sljoined_steps⟩)
    (c_joined_steps : PySem.W.codeIn K cdjoined_steps "_joined_steps" = true)
    (k_joined_steps : PySem.W.keepIn K (.ref f_joined_steps) = true)
    (a_Chain___add : PySem.W.findIn K (.ref C_Chain) "__add__" = some (some (.ref f_Chain___add)))
    (if_Chain___add : PySem.W.isFn K (.ref f_Chain___add) = true)
    (l_Chain___add : K.lookup f_Chain___add = some ⟨ocChain___add, odChain___add, .func (PySem.W.fnOf "__add__" "Chain.__add__" (defArgs s_Chain___add) (defBody s_Chain___add) (defScope s_Chain___add) .none kVChain___add dcChain___add pmChain___add anChain___add cdChain___add ctChain___add), slChain___add⟩)
    (c_Chain___add : PySem.W.codeIn K cdChain___add "Chain.__add__" = true)
    (k_Chain___add : PySem.W.keepIn K (.ref f_Chain___add) = true)
    (a_Ring___add : PySem.W.findIn K (.ref C_Ring) "__add__" = some (some (.ref f_Ring___add)))
    (if_Ring___add : PySem.W.isFn K (.ref f_Ring___add) = true)
    (l_Ring___add : K.lookup f_Ring___add = some ⟨ocRing___add, odRing___add, .func (PySem.W.fnOf "__add__" "Ring.__add__" (defArgs s_Ring___add) (defBody s_Ring___add) (defScope s_Ring___add) .none kVRing___add dcRing___add pmRing___add anRing___add cdRing___add ctRing___add), slRing___add⟩)
    (c_Ring___add : PySem.W.codeIn K cdRing___add "Ring.__add__" = true)
    (k_Ring___add : PySem.W.keepIn K (.ref f_Ring___add) = true)
    (a_Through___add : PySem.W.findIn K (.ref C_Through) "__add__" = some (some (.ref f_Through___add)))
    (if_Through___add : PySem.W.isFn K (.ref f_Through___add) = true)
    (l_Through___add : K.lookup f_Through___add = some ⟨ocThrough___add, odThrough___add, .func (PySem.W.fnOf "__add__" "Through.__add__" (defArgs s_Through___add) (defBody s_Through___add) (defScope s_Through___add) .none kVThrough___add dcThrough___add pmThrough___add anThrough___add cdThrough___add ctThrough___add), slThrough___add⟩)
    (c_Through___add : PySem.W.codeIn K cdThrough___add "Through.__add__" = true)
    (k_Through___add : PySem.W.keepIn K (.ref f_Through___add) = true)
    (a_Chain___eq : PySem.W.findIn K (.ref C_Chain) "__eq__" = some (some (.ref f_Chain___eq)))
    (if_Chain___eq : PySem.W.isFn K (.ref f_Chain___eq) = true)
    (l_Chain___eq : K.lookup f_Chain___eq = some ⟨ocChain___eq, odChain___eq, .func (PySem.W.fnOf "__eq__" "Chain.__eq__" (defArgs s_Chain___eq) (defBody s_Chain___eq) (defScope s_Chain___eq) .none kVChain___eq dcChain___eq pmChain___eq anChain___eq cdChain___eq ctChain___eq), slChain___eq⟩)
    (c_Chain___eq : PySem.W.codeIn K cdChain___eq "Chain.__eq__" = true)
    (k_Chain___eq : PySem.W.keepIn K (.ref f_Chain___eq) = true)
    (a_h_row_of_steps : PySem.W.nsIn K mainGlobals "_law_row_of_steps" = some (some (.ref f_h_row_of_steps)))
    (l_h_row_of_steps : K.lookup f_h_row_of_steps = some ⟨och_row_of_steps, odh_row_of_steps, .func (PySem.W.fnOf "_law_row_of_steps" "_law_row_of_steps" (defArgs s_h_row_of_steps) (defBody s_h_row_of_steps) (defScope s_h_row_of_steps) .none kVh_row_of_steps dch_row_of_steps pmh_row_of_steps anh_row_of_steps cdh_row_of_steps cth_row_of_steps), slh_row_of_steps⟩)
    (c_h_row_of_steps : PySem.W.codeIn K cdh_row_of_steps "_law_row_of_steps" = true)
    (k_h_row_of_steps : PySem.W.keepIn K (.ref f_h_row_of_steps) = true)
    (a_h_reason : PySem.W.nsIn K mainGlobals "_law_reason" = some (some (.ref f_h_reason)))
    (l_h_reason : K.lookup f_h_reason = some ⟨och_reason, odh_reason, .func (PySem.W.fnOf "_law_reason" "_law_reason" (defArgs s_h_reason) (defBody s_h_reason) (defScope s_h_reason) .none kVh_reason dch_reason pmh_reason anh_reason cdh_reason cth_reason), slh_reason⟩)
    (c_h_reason : PySem.W.codeIn K cdh_reason "_law_reason" = true)
    (k_h_reason : PySem.W.keepIn K (.ref f_h_reason) = true)
    (a_h_sum : PySem.W.nsIn K mainGlobals "_law_sum" = some (some (.ref f_h_sum)))
    (l_h_sum : K.lookup f_h_sum = some ⟨och_sum, odh_sum, .func (PySem.W.fnOf "_law_sum" "_law_sum" (defArgs s_h_sum) (defBody s_h_sum) (defScope s_h_sum) .none kVh_sum dch_sum pmh_sum anh_sum cdh_sum cth_sum), slh_sum⟩)
    (c_h_sum : PySem.W.codeIn K cdh_sum "_law_sum" = true)
    (k_h_sum : PySem.W.keepIn K (.ref f_h_sum) = true)
    (a_law : PySem.W.nsIn K mainGlobals "law" = some (some (.ref f_law)))
    (l_law : K.lookup f_law = some ⟨oclaw, odlaw, .func (PySem.W.fnOf "law" "law" (defArgs s_law) (defBody s_law) (defScope s_law) .none kVlaw dclaw pmlaw anlaw cdlaw ctlaw), sllaw⟩)
    (c_law : PySem.W.codeIn K cdlaw "law" = true)
    (k_law : PySem.W.keepIn K (.ref f_law) = true)
    (a_BadSteps : PySem.W.nsIn K mainGlobals "BadSteps" = some (some (.ref C_BadSteps)))
    (e_BadSteps : errB K C_BadSteps [.type "ValueError", .type "Exception", .type "BaseException", .type "object"] "ValueError.__new__" ["reason"] = true)
    (n_BadSteps : PySem.W.findIn K (.ref C_BadSteps) "__init__" = some (some (.ref i_BadSteps)))
    (t_BadSteps : PySem.W.typeIn K (.ref i_BadSteps) = some (.type "function"))
    (l_IBadSteps : K.lookup i_BadSteps = some ⟨ocIBadSteps, odIBadSteps, .func (PySem.W.fnOf "__init__" "BadSteps.__init__" (defArgs sI_BadSteps) (defBody sI_BadSteps) (defScope sI_BadSteps) .none kVIBadSteps dcIBadSteps pmIBadSteps anIBadSteps cdIBadSteps ctIBadSteps), slIBadSteps⟩)
    (c_IBadSteps : PySem.W.codeIn K cdIBadSteps "BadSteps.__init__" = true)
    (k_IBadSteps : PySem.W.keepIn K (.ref i_BadSteps) = true)
    (a_WorldError : PySem.W.nsIn K mainGlobals "WorldError" = some (some (.ref C_WorldError)))
    (z_len : PySem.W.nsIn K mainGlobals "len" = some none)
    (z_isinstance : PySem.W.nsIn K mainGlobals "isinstance" = some none)
    (z_type : PySem.W.nsIn K mainGlobals "type" = some none)
    (z_tuple : PySem.W.nsIn K mainGlobals "tuple" = some none)
    (z_range : PySem.W.nsIn K mainGlobals "range" = some none)
    (z_max : PySem.W.nsIn K mainGlobals "max" = some none)
    (z_min : PySem.W.nsIn K mainGlobals "min" = some none)
    (z_ValueError : PySem.W.nsIn K mainGlobals "ValueError" = some none)
    (bo : boB K [C_Chain, C_Ring, C_Through] = true)
    (ne1 : PySem.W.findIn K (.ref C_Chain) "__ne__" = some (some (.builtin "object.__ne__")))
    (ne2 : PySem.W.subIn K (.ref C_Chain) (.type "object") = some true)
    (exm : PySem.W.exmOne K (.ref C_BadSteps) (.ref C_WorldError) = some true)
    (kb1 : PySem.W.kitOne K (.ref C_BadSteps) (.ref C_BadSteps) = some true)
    (kb2 : PySem.W.kitOne K (.ref C_BadSteps) (.type "ValueError") = some true) :
    ∃ fd : FuncData, (∀ (s : Shared) (v : Value), BindsTo s fd ⟨[v], []⟩ [("_law_script", v)]) ∧ ∀ base : Heap, K.In base → base.Ns mainGlobals mg → FnOk l.prog w K mg base CX0 6 fa fd ["_law_script"] (spLaw0 K) := by
  have e := hfa.symm.trans (PySem.W.mg_of X G a_law)
  cases e
  have F_h_source := fun_mk (st := s_h_source) l_h_source c_h_source k_h_source
  have b_h_source := F_h_source.binds (ps := ["_law_script", "_law_k"]) fun _ _ _ _ _ _ us hl => match us, hl with | [_, _], _ => rfl
  have F_h_next := fun_mk (st := s_h_next) l_h_next c_h_next k_h_next
  have b_h_next := F_h_next.binds (ps := ["_law_source_here", "_law_many"]) fun _ _ _ _ _ _ us hl => match us, hl with | [_, _], _ => rfl
  have F_h_pick := fun_mk (st := s_h_pick) l_h_pick c_h_pick k_h_pick
  have b_h_pick := F_h_pick.binds (ps := ["_law_source_here", "_law_items"]) fun _ _ _ _ _ _ us hl => match us, hl with | [_, _], _ => rfl
  have F_Chain___init := fun_mk (st := s_Chain___init) l_Chain___init c_Chain___init k_Chain___init
  have b_Chain___init := F_Chain___init.binds (ps := ["self", "steps"]) fun _ _ _ _ _ _ us hl => match us, hl with | [_, _], _ => rfl
  have F_Ring___init := fun_mk (st := s_Ring___init) l_Ring___init c_Ring___init k_Ring___init
  have b_Ring___init := F_Ring___init.binds (ps := ["self", "steps"]) fun _ _ _ _ _ _ us hl => match us, hl with | [_, _], _ => rfl
  have F_Through___init := fun_mk (st := s_Through___init) l_Through___init c_Through___init k_Through___init
  have b_Through___init := F_Through___init.binds (ps := ["self", "steps", "name"]) fun _ _ _ _ _ _ us hl => match us, hl with | [_, _, _], _ => rfl
  have F_Chain___len := fun_mk (st := s_Chain___len) l_Chain___len c_Chain___len k_Chain___len
  have b_Chain___len := F_Chain___len.binds (ps := ["self"]) fun _ _ _ _ _ _ us hl => match us, hl with | [_], _ => rfl
  have F_Ring___len := fun_mk (st := s_Ring___len) l_Ring___len c_Ring___len k_Ring___len
  have b_Ring___len := F_Ring___len.binds (ps := ["self"]) fun _ _ _ _ _ _ us hl => match us, hl with | [_], _ => rfl
  have F_Through___len := fun_mk (st := s_Through___len) l_Through___len c_Through___len k_Through___len
  have b_Through___len := F_Through___len.binds (ps := ["self"]) fun _ _ _ _ _ _ us hl => match us, hl with | [_], _ => rfl
  have F_joined_steps := fun_mk (st := s_joined_steps) l_joined_steps c_joined_steps k_joined_steps
  have b_joined_steps := F_joined_steps.binds (ps := ["one", "other"]) fun _ _ _ _ _ _ us hl => match us, hl with | [_, _], _ => rfl
  have F_Chain___add := fun_mk (st := s_Chain___add) l_Chain___add c_Chain___add k_Chain___add
  have b_Chain___add := F_Chain___add.binds (ps := ["self", "other"]) fun _ _ _ _ _ _ us hl => match us, hl with | [_, _], _ => rfl
  have F_Ring___add := fun_mk (st := s_Ring___add) l_Ring___add c_Ring___add k_Ring___add
  have b_Ring___add := F_Ring___add.binds (ps := ["self", "other"]) fun _ _ _ _ _ _ us hl => match us, hl with | [_, _], _ => rfl
  have F_Through___add := fun_mk (st := s_Through___add) l_Through___add c_Through___add k_Through___add
  have b_Through___add := F_Through___add.binds (ps := ["self", "other"]) fun _ _ _ _ _ _ us hl => match us, hl with | [_, _], _ => rfl
  have F_Chain___eq := fun_mk (st := s_Chain___eq) l_Chain___eq c_Chain___eq k_Chain___eq
  have b_Chain___eq := F_Chain___eq.binds (ps := ["self", "other"]) fun _ _ _ _ _ _ us hl => match us, hl with | [_, _], _ => rfl
  have F_h_row_of_steps := fun_mk (st := s_h_row_of_steps) l_h_row_of_steps c_h_row_of_steps k_h_row_of_steps
  have b_h_row_of_steps := F_h_row_of_steps.binds (ps := ["_law_source_here", "_law_first", "_law_many"]) fun _ _ _ _ _ _ us hl => match us, hl with | [_, _, _], _ => rfl
  have F_h_reason := fun_mk (st := s_h_reason) l_h_reason c_h_reason k_h_reason
  have b_h_reason := F_h_reason.binds (ps := ["_law_source_here", "_law_steps"]) fun _ _ _ _ _ _ us hl => match us, hl with | [_, _], _ => rfl
  have F_h_sum := fun_mk (st := s_h_sum) l_h_sum c_h_sum k_h_sum
  have b_h_sum := F_h_sum.binds (ps := ["_law_one", "_law_other"]) fun _ _ _ _ _ _ us hl => match us, hl with | [_, _], _ => rfl
  have F_law := fun_mk (st := s_law) l_law c_law k_law
  have F_IBadSteps := fun_mk (st := sI_BadSteps) l_IBadSteps c_IBadSteps k_IBadSteps
  have b_IBadSteps := F_IBadSteps.binds (ps := ["self", "reason"]) fun _ _ _ _ _ _ us hl => match us, hl with | [_, _], _ => rfl
  have g_WorldError := PySem.W.mg_of X G a_WorldError
  have T : Txt mg := ⟨PySem.W.mg_none_of X G z_len, PySem.W.mg_none_of X G z_isinstance, PySem.W.mg_none_of X G z_type, PySem.W.mg_none_of X G z_tuple, PySem.W.mg_none_of X G z_range, PySem.W.mg_none_of X G z_max, PySem.W.mg_none_of X G z_min, PySem.W.mg_none_of X G z_ValueError⟩
  refine ⟨PySem.W.fnOf "law" "law" (defArgs s_law) (defBody s_law) (defScope s_law) .none kVlaw dclaw pmlaw anlaw cdlaw ctlaw, fun s v => .of_eq rfl, fun base _ _ => ?_⟩
  have E_BadSteps : Er l.prog w K mg base "BadSteps" C_BadSteps ["reason"] := er_mk overV (PySem.W.mg_of X G a_BadSteps) e_BadSteps n_BadSteps t_BadSteps b_IBadSteps (okI_BadSteps F_IBadSteps) (by decide) (by decide)
  have K_Chain : Kl K mg "Chain" C_Chain ["steps"] := ⟨⟨pg_Chain, hd_Chain, po_Chain, sa_Chain⟩, PySem.W.mg_of X G a_Chain, (List.forall_mem_cons.mpr ⟨nf_Chain_steps, (fun _ h => nomatch h)⟩)⟩
  have K_Ring : Kl K mg "Ring" C_Ring ["steps"] := ⟨⟨pg_Ring, hd_Ring, po_Ring, sa_Ring⟩, PySem.W.mg_of X G a_Ring, (List.forall_mem_cons.mpr ⟨nf_Ring_steps, (fun _ h => nomatch h)⟩)⟩
  have K_Through : Kl K mg "Through" C_Through ["steps", "name"] := ⟨⟨pg_Through, hd_Through, po_Through, sa_Through⟩, PySem.W.mg_of X G a_Through, (List.forall_mem_cons.mpr ⟨nf_Through_steps, (List.forall_mem_cons.mpr ⟨nf_Through_name, (fun _ h => nomatch h)⟩)⟩)⟩
  have BO := bo_of bo
  have NC : NeC K C_Chain := ⟨ne1, ne2⟩
  have KS : ∀ C ∈ [C_Chain, C_Ring, C_Through], Cls K C ∧ NoAttr K C "steps" := mem3 ⟨K_Chain.cl, K_Chain.no "steps" (by simp)⟩ ⟨K_Ring.cl, K_Ring.no "steps" (by simp)⟩ ⟨K_Through.cl, K_Through.no "steps" (by simp)⟩
  have D_h_source : Dn l.prog w K mg base CX0 1 "_law_source" ["_law_script", "_law_k"] (spSource K) := ⟨f_h_source, _, k_h_source, b_h_source, PySem.W.mg_of X G a_h_source, ok_h_source F_h_source T⟩
  have D_h_next : Dn l.prog w K mg base CX0 1 "_law_next" ["_law_source_here", "_law_many"] (spNext) := ⟨f_h_next, _, k_h_next, b_h_next, PySem.W.mg_of X G a_h_next, ok_h_next F_h_next T⟩
  have D_h_pick : Dn l.prog w K mg base CX0 2 "_law_pick" ["_law_source_here", "_law_items"] (spPick) := ⟨f_h_pick, _, k_h_pick, b_h_pick, PySem.W.mg_of X G a_h_pick, ok_h_pick F_h_pick T D_h_next⟩
  have D_Chain___init : Mi l.prog w K mg base CX0 1 C_Chain ["self", "steps"] (spInit1 C_Chain) := ⟨f_Chain___init, _, ⟨mk_Chain, a_Chain___init, if_Chain___init, kc_Chain⟩, b_Chain___init, ok_Chain___init F_Chain___init T K_Chain⟩
  have D_Ring___init : Mi l.prog w K mg base CX0 1 C_Ring ["self", "steps"] (spInit1 C_Ring) := ⟨f_Ring___init, _, ⟨mk_Ring, a_Ring___init, if_Ring___init, kc_Ring⟩, b_Ring___init, ok_Ring___init F_Ring___init T K_Ring⟩
  have D_Through___init : Mi l.prog w K mg base CX0 1 C_Through ["self", "steps", "name"] (spInit2 C_Through) := ⟨f_Through___init, _, ⟨mk_Through, a_Through___init, if_Through___init, kc_Through⟩, b_Through___init, ok_Through___init F_Through___init T K_Through⟩
  have D_Chain___len : Mn l.prog w K mg base CX0 1 C_Chain "__len__" ["self"] (spLen [C_Chain, C_Ring, C_Through]) := ⟨f_Chain___len, _, ⟨a_Chain___len, if_Chain___len, k_Chain___len⟩, b_Chain___len, ok_Chain___len F_Chain___len T K_Chain KS⟩
  have D_Ring___len : Mn l.prog w K mg base CX0 1 C_Ring "__len__" ["self"] (spLen [C_Chain, C_Ring, C_Through]) := ⟨f_Ring___len, _, ⟨a_Ring___len, if_Ring___len, k_Ring___len⟩, b_Ring___len, ok_Ring___len F_Ring___len T K_Ring KS⟩
  have D_Through___len : Mn l.prog w K mg base CX0 1 C_Through "__len__" ["self"] (spLen [C_Chain, C_Ring, C_Through]) := ⟨f_Through___len, _, ⟨a_Through___len, if_Through___len, k_Through___len⟩, b_Through___len, ok_Through___len F_Through___len T K_Through KS⟩
  have D_joined_steps : Dn l.prog w K mg base (L2.CX l.prog w) 3 "_joined_steps" ["one", "other"] (spJoin [C_Chain, C_Ring, C_Through] C_BadSteps) := ⟨f_joined_steps, _, k_joined_steps, b_joined_steps, PySem.W.mg_of X G a_joined_steps, ok_joined_steps F_joined_steps T E_BadSteps KS⟩
  have D_Chain___add : Mn l.prog w K mg base (L2.CX l.prog w) 4 C_Chain "__add__" ["self", "other"] (spAdd [C_Chain, C_Ring, C_Through] C_Chain C_BadSteps) := ⟨f_Chain___add, _, ⟨a_Chain___add, if_Chain___add, k_Chain___add⟩, b_Chain___add, ok_Chain___add F_Chain___add T K_Chain D_Chain___init D_joined_steps⟩
  have D_Ring___add : Mn l.prog w K mg base (L2.CX l.prog w) 4 C_Ring "__add__" ["self", "other"] (spAdd [C_Chain, C_Ring, C_Through] C_Chain C_BadSteps) := ⟨f_Ring___add, _, ⟨a_Ring___add, if_Ring___add, k_Ring___add⟩, b_Ring___add, ok_Ring___add F_Ring___add T K_Chain K_Ring D_Chain___init D_joined_steps⟩
  have D_Through___add : Mn l.prog w K mg base (L2.CX l.prog w) 4 C_Through "__add__" ["self", "other"] (spAdd [C_Chain, C_Ring, C_Through] C_Chain C_BadSteps) := ⟨f_Through___add, _, ⟨a_Through___add, if_Through___add, k_Through___add⟩, b_Through___add, ok_Through___add F_Through___add T K_Chain K_Through D_Chain___init D_joined_steps⟩
  have D_Chain___eq : Mn l.prog w K mg base CX0 1 C_Chain "__eq__" ["self", "other"] (spEq C_Chain) := ⟨f_Chain___eq, _, ⟨a_Chain___eq, if_Chain___eq, k_Chain___eq⟩, b_Chain___eq, ok_Chain___eq F_Chain___eq T K_Chain⟩
  have D_h_row_of_steps : Dn l.prog w K mg base CX0 3 "_law_row_of_steps" ["_law_source_here", "_law_first", "_law_many"] (spRow) := ⟨f_h_row_of_steps, _, k_h_row_of_steps, b_h_row_of_steps, PySem.W.mg_of X G a_h_row_of_steps, ok_h_row_of_steps F_h_row_of_steps T D_h_pick⟩
  have D_h_reason : Dn l.prog w K mg base CX0 3 "_law_reason" ["_law_source_here", "_law_steps"] (spReason [C_Chain, C_Ring, C_Through]) := ⟨f_h_reason, _, k_h_reason, b_h_reason, PySem.W.mg_of X G a_h_reason, ok_h_reason F_h_reason T K_Chain K_Ring K_Through D_h_next D_Chain___init D_Ring___init D_Through___init⟩
  have D_h_sum : Dn l.prog w K mg base CX0 5 "_law_sum" ["_law_one", "_law_other"] (spSum K [C_Chain, C_Ring, C_Through]) := ⟨f_h_sum, _, k_h_sum, b_h_sum, PySem.W.mg_of X G a_h_sum, ok_h_sum F_h_sum T K_Chain D_Chain___init D_Chain___len D_Chain___add D_Ring___add D_Through___add D_Chain___eq E_BadSteps g_WorldError BO exm kb1 kb2⟩
  exact ok_law F_law T K_Chain D_h_source D_h_next D_h_pick D_Chain___init D_Chain___len D_Ring___len D_Through___len D_Chain___add D_Ring___add D_Through___add D_Chain___eq D_h_row_of_steps D_h_reason D_h_sum BO NC KS
end K23
open PySem PySem.W PyProof.Rows
set_option maxRecDepth 100000 in
set_option maxHeartbeats 0 in
theorem PySem.Challenge.cw_nextbehind_k23_chains_added_holds : PySem.Challenge.rw_nextbehind_k23_chains_added.Holds := by
  w_on; o_law; k_head; (case hw => w_witness2)
  k_fill
  refine L2.walk_of (l := PySem.Challenge.rw_nextbehind_k23_chains_added) (n := 63) (k := 6) (x := "_law_script") (CX := fun _ => L2.CX0) (sp := fun w => Nb.spLaw0 _) rfl (by decide) rfl ⟨rfl, by decide, by decide⟩ (fun w h Y => PySem.W.kIn_of Y) ?F (fun _ _ a ns hl _ hS => ⟨a, ns, rfl, hS, hl, fun _ => rfl⟩) (fun _ _ _ _ _ h => h)
  case F =>
    intro w mg fa h KX G hmg
    refine' K23.all_mk KX G hmg ?a_Chain ?pg_Chain ?hd_Chain ?po_Chain ?sa_Chain ?nf_Chain_steps ?mk_Chain ?kc_Chain ?a_Ring ?pg_Ring ?hd_Ring ?po_Ring ?sa_Ring ?nf_Ring_steps ?mk_Ring ?kc_Ring ?a_Through ?pg_Through ?hd_Through ?po_Through ?sa_Through ?nf_Through_steps ?nf_Through_name ?mk_Through ?kc_Through ?a_h_source ?l_h_source ?c_h_source ?k_h_source ?a_h_next ?l_h_next ?c_h_next ?k_h_next ?a_h_pick ?l_h_pick ?c_h_pick ?k_h_pick ?a_Chain___init ?if_Chain___init ?l_Chain___init ?c_Chain___init ?k_Chain___init ?a_Ring___init ?if_Ring___init ?l_Ring___init ?c_Ring___init ?k_Ring___init ?a_Through___init ?if_Through___init ?l_Through___init ?c_Through___init ?k_Through___init ?a_Chain___len ?if_Chain___len ?l_Chain___len ?c_Chain___len ?k_Chain___len ?a_Ring___len ?if_Ring___len ?l_Ring___len ?c_Ring___len ?k_Ring___len ?a_Through___len ?if_Through___len ?l_Through___len ?c_Through___len ?k_Through___len ?a_joined_steps ?l_joined_steps ?c_joined_steps ?k_joined_steps ?a_Chain___add ?if_Chain___add ?l_Chain___add ?c_Chain___add ?k_Chain___add ?a_Ring___add ?if_Ring___add ?l_Ring___add ?c_Ring___add ?k_Ring___add ?a_Through___add ?if_Through___add ?l_Through___add ?c_Through___add ?k_Through___add ?a_Chain___eq ?if_Chain___eq ?l_Chain___eq ?c_Chain___eq ?k_Chain___eq ?a_h_row_of_steps ?l_h_row_of_steps ?c_h_row_of_steps ?k_h_row_of_steps ?a_h_reason ?l_h_reason ?c_h_reason ?k_h_reason ?a_h_sum ?l_h_sum ?c_h_sum ?k_h_sum ?a_law ?l_law ?c_law ?k_law ?a_BadSteps ?e_BadSteps ?n_BadSteps ?t_BadSteps ?l_IBadSteps ?c_IBadSteps ?k_IBadSteps ?a_WorldError ?z_len ?z_isinstance ?z_type ?z_tuple ?z_range ?z_max ?z_min ?z_ValueError ?bo ?ne1 ?ne2 ?exm ?kb1 ?kb2
    (case a_Chain => k_is)
    (case pg_Chain => kernel_rfl)
    (case hd_Chain => kernel_rfl)
    (case po_Chain => kernel_rfl)
    (case sa_Chain => k_is)
    (case nf_Chain_steps => k_is)
    (case mk_Chain => kernel_rfl)
    (case kc_Chain => k_is)
    (case a_Ring => k_is)
    (case pg_Ring => kernel_rfl)
    (case hd_Ring => kernel_rfl)
    (case po_Ring => kernel_rfl)
    (case sa_Ring => k_is)
    (case nf_Ring_steps => k_is)
    (case mk_Ring => kernel_rfl)
    (case kc_Ring => k_is)
    (case a_Through => k_is)
    (case pg_Through => kernel_rfl)
    (case hd_Through => kernel_rfl)
    (case po_Through => kernel_rfl)
    (case sa_Through => k_is)
    (case nf_Through_steps => k_is)
    (case nf_Through_name => k_is)
    (case mk_Through => kernel_rfl)
    (case kc_Through => k_is)
    (case a_h_source => k_is)
    (case l_h_source => k_is)
    (case c_h_source => k_is)
    (case k_h_source => k_is)
    (case a_h_next => k_is)
    (case l_h_next => k_is)
    (case c_h_next => k_is)
    (case k_h_next => k_is)
    (case a_h_pick => k_is)
    (case l_h_pick => k_is)
    (case c_h_pick => k_is)
    (case k_h_pick => k_is)
    (case a_Chain___init => k_is)
    (case if_Chain___init => kernel_rfl)
    (case l_Chain___init => k_is)
    (case c_Chain___init => k_is)
    (case k_Chain___init => k_is)
    (case a_Ring___init => k_is)
    (case if_Ring___init => kernel_rfl)
    (case l_Ring___init => k_is)
    (case c_Ring___init => k_is)
    (case k_Ring___init => k_is)
    (case a_Through___init => k_is)
    (case if_Through___init => kernel_rfl)
    (case l_Through___init => k_is)
    (case c_Through___init => k_is)
    (case k_Through___init => k_is)
    (case a_Chain___len => k_is)
    (case if_Chain___len => kernel_rfl)
    (case l_Chain___len => k_is)
    (case c_Chain___len => k_is)
    (case k_Chain___len => k_is)
    (case a_Ring___len => k_is)
    (case if_Ring___len => kernel_rfl)
    (case l_Ring___len => k_is)
    (case c_Ring___len => k_is)
    (case k_Ring___len => k_is)
    (case a_Through___len => k_is)
    (case if_Through___len => kernel_rfl)
    (case l_Through___len => k_is)
    (case c_Through___len => k_is)
    (case k_Through___len => k_is)
    (case a_joined_steps => k_is)
    (case l_joined_steps => k_is)
    (case c_joined_steps => k_is)
    (case k_joined_steps => k_is)
    (case a_Chain___add => k_is)
    (case if_Chain___add => kernel_rfl)
    (case l_Chain___add => k_is)
    (case c_Chain___add => k_is)
    (case k_Chain___add => k_is)
    (case a_Ring___add => k_is)
    (case if_Ring___add => kernel_rfl)
    (case l_Ring___add => k_is)
    (case c_Ring___add => k_is)
    (case k_Ring___add => k_is)
    (case a_Through___add => k_is)
    (case if_Through___add => kernel_rfl)
    (case l_Through___add => k_is)
    (case c_Through___add => k_is)
    (case k_Through___add => k_is)
    (case a_Chain___eq => k_is)
    (case if_Chain___eq => kernel_rfl)
    (case l_Chain___eq => k_is)
    (case c_Chain___eq => k_is)
    (case k_Chain___eq => k_is)
    (case a_h_row_of_steps => k_is)
    (case l_h_row_of_steps => k_is)
    (case c_h_row_of_steps => k_is)
    (case k_h_row_of_steps => k_is)
    (case a_h_reason => k_is)
    (case l_h_reason => k_is)
    (case c_h_reason => k_is)
    (case k_h_reason => k_is)
    (case a_h_sum => k_is)
    (case l_h_sum => k_is)
    (case c_h_sum => k_is)
    (case k_h_sum => k_is)
    (case a_law => k_is)
    (case l_law => k_is)
    (case c_law => k_is)
    (case k_law => k_is)
    (case a_BadSteps => k_is)
    (case e_BadSteps => kernel_rfl)
    (case n_BadSteps => k_is)
    (case t_BadSteps => k_is)
    (case l_IBadSteps => k_is)
    (case c_IBadSteps => k_is)
    (case k_IBadSteps => k_is)
    (case a_WorldError => k_is)
    (case z_len => k_is)
    (case z_isinstance => k_is)
    (case z_type => k_is)
    (case z_tuple => k_is)
    (case z_range => k_is)
    (case z_max => k_is)
    (case z_min => k_is)
    (case z_ValueError => k_is)
    (case bo => kernel_rfl)
    (case ne1 => k_is)
    (case ne2 => k_is)
    (case exm => kernel_rfl)
    (case kb1 => kernel_rfl)
    (case kb2 => kernel_rfl)
