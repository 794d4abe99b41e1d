import PyProof.Rows.All
import Wide.All
import OpenK.AllK
import Wide.FinOn
import HandS.ForMost
import HandS.IsInst
import HandS.Wide
import HandS.Ends
import HandS.ExcOwn
import HandS.TupAny
import HandS.ExcInit
import PyProof.Rows.RegFStrParts
import HandS.Walk
import HandS.Strs
import KE.GoesEnum
import KE.GoesMore
import HandS.DictComp
import HandS.Deep
import HandS.More
import HandS.Star
import HandS.SetKeys
import HandS.Exc
import HandS.ExcField
import HandS.ExcIs
import KE.KExcIs
import KE.KExcInit
import HandS.OwnEq
import PyProof.AttrMiss
import PyProof.InstEq
import HandS.SlotsOwn
import HandS.FStr
import HandS.Text
import HandS.Style
import PyProof.P3Eq
import HandS.ForExc
import PySem.Challenge.RW_nextbehind_k22_answers_shown
set_option Elab.async false
set_option maxRecDepth 100000
set_option maxHeartbeats 4000000
/-! Heaps, and the numbers that the laws draw: what is common to all of them. -/
namespace Nb
open PySem L2
/-! ### heaps -/
theorem same_new {H : Hp} {p : Addr} {o : HO} (h : H p = none) : Same H (upd H p o) := fun b x e => by
  rw [upd_ne (ne_of_none e h)]
  exact e
/-- F says nothing of p: so what is stored at p leaves F as it is -/
theorem same_at {F H : Hp} {p : Addr} {o : HO} (s : Same F H) (h : F p = none) : Same F (upd H p o) := fun b x e => by
  rw [upd_ne (ne_of_none e h)]
  exact s _ _ e
theorem same_in {F H : Hp} {p : Addr} {o : HO} (s : Same F H) (h : H p = none) : Same F (upd H p o) := s.trans (same_new h)
/-- the heap without p -/
def del (H : Hp) (p : Addr) : Hp := fun b => if b = p then none else H b
theorem del_at {H : Hp} {p : Addr} : del H p p = none := if_pos rfl
theorem del_ne {H : Hp} {p b : Addr} (h : b ≠ p) : del H p b = H b := if_neg h
theorem del_same {H : Hp} {p : Addr} : Same (del H p) H := fun b o e => by
  by_cases h : b = p
  · subst h
    rw [del_at] at e
    cases e
  · rw [del_ne h] at e
    exact e
theorem same_del {F H : Hp} {p : Addr} (s : Same F H) (h : F p = none) : Same F (del H p) := fun b o e => by
  rw [del_ne (ne_of_none e h)]
  exact s _ _ e
theorem Same.tup {K : PySem.W.Frag} {H H' : Hp} {a : Addr} {xs : List V} (e : Same H H') (h : SqT K H a xs) : SqT K H' a xs := by
  rcases h with (h | ⟨o, h⟩) | h
  · exact .inl (.inl (e _ _ h))
  · exact .inl (.inr ⟨o, e _ _ h⟩)
  · exact .inr h
/-! ### data under more objects -/
section
variable {K : PySem.W.Frag} {H H' : Hp} (s : Same H H')
include s
mutual
theorem dp_same : ∀ (d : PyData) (v : V), Dp K H v d → Dp K H' v d
  | .none, _, .non => .non
  | .bool b, _, .bl _ => .bl b
  | .int i, _, .int _ => .int i
  | .str x, _, .str _ => .str x
  | .list ds, _, .lst h1 h2 => .lst (s.seq h1) (dp_sames ds _ h2)
  | .tuple ds, _, .tup h1 h2 => .tup (Nb.Same.tup s h1) (dp_sames ds _ h2)
theorem dp_sames : ∀ (ds : List PyData) (vs : List V), DpAll K H vs ds → DpAll K H' vs ds
  | [], _, .nil => .nil
  | d :: ds, _, .cons h1 h2 => .cons (dp_same d _ h1) (dp_sames ds _ h2)
end
end
theorem dp_ints {K : PySem.W.Frag} {H : Hp} : ∀ ns : List Int, DpAll K H (ns.map V.int) (ns.map PyData.int)
  | [] => .nil
  | n :: ns => .cons (.int n) (dp_ints ns)
/-- data without dicts, whose texts are texts, not deeper than n -/
def Fine (n : Nat) (d : PyData) : Prop := d.canLay0 = true ∧ d.depth ≤ n
theorem Fine.mono {n m : Nat} {d : PyData} (h : Fine n d) (l : n ≤ m) : Fine m d := ⟨h.1, Nat.le_trans h.2 l⟩
theorem Fine.shaped {n : Nat} {d : PyData} (h : Fine n d) (l : n ≤ 64) : SeqAt.shaped d = true := by
  unfold SeqAt.shaped
  rw [h.1, Bool.true_and]
  exact decide_eq_true (Nat.le_trans h.2 l)
theorem fine_all : ∀ {n : Nat} {ds : List PyData}, (∀ d ∈ ds, Fine n d) → PyData.canLayAll0 ds = true ∧ PyData.depthAll ds ≤ n
  | n, [], _ => by simp [PyData.canLayAll0, PyData.depthAll]
  | n, d :: ds, h => by
    have h1 := h d (List.mem_cons_self ..)
    have h2 := fine_all (n := n) (ds := ds) fun e he => h e (List.mem_cons_of_mem _ he)
    refine ⟨by simp [PyData.canLayAll0, h1.1, h2.1], ?_⟩
    simp only [PyData.depthAll]
    exact Nat.max_le.mpr ⟨h1.2, h2.2⟩
theorem fine_list {n : Nat} {ds : List PyData} (h : ∀ d ∈ ds, Fine n d) : Fine (n + 1) (.list ds) := by
  have k := fine_all h
  exact ⟨by simpa [PyData.canLay0] using k.1, by simpa [PyData.depth] using k.2⟩
theorem fine_tup {n : Nat} {ds : List PyData} (h : ∀ d ∈ ds, Fine n d) : Fine (n + 1) (.tuple ds) := by
  have k := fine_all h
  exact ⟨by simpa [PyData.canLay0] using k.1, by simpa [PyData.depth] using k.2⟩
theorem fine_int (i : Int) : Fine 0 (.int i) := ⟨by simp [PyData.canLay0], by simp [PyData.depth]⟩
theorem fine_non : Fine 0 .none := ⟨by simp [PyData.canLay0], by simp [PyData.depth]⟩
theorem fine_bl (b : Bool) : Fine 0 (.bool b) := ⟨by simp [PyData.canLay0], by simp [PyData.depth]⟩
theorem fine_str {x : Str} (h : PyData.strOk x = true) : Fine 0 (.str x) := ⟨by simpa [PyData.canLay0] using h, by simp [PyData.depth]⟩
theorem fine_ints (ns : List Int) : Fine 1 (.list (ns.map PyData.int)) := fine_list fun d hd => by
  obtain ⟨i, _, rfl⟩ := List.mem_map.mp hd
  exact fine_int i
theorem eqv_nil (ds : List PyData) : PyData.eqv (.list ds) (.list []) = ds.isEmpty := by
  cases ds <;> simp [PyData.eqv, PyData.eqvAll]
/-! ### the source of numbers: a list of three ints -/
def Src (H : Hp) (p : Addr) (b : Nat) : Prop := ∃ c n r : Int, H p = some (.lst [.int c, .int n, .int r]) ∧ 0 ≤ n ∧ n ≤ b
theorem Src.mono {H : Hp} {p : Addr} {b c : Nat} (h : Src H p b) (l : b ≤ c) : Src H p c := by
  obtain ⟨x, n, r, h1, h2, h3⟩ := h
  exact ⟨x, n, r, h1, h2, by omega⟩
theorem Src.some {H : Hp} {p : Addr} {b : Nat} (h : Src H p b) : ∃ o, H p = some o := let ⟨_, _, _, e, _⟩ := h; ⟨_, e⟩
theorem Src.same {F H : Hp} {p : Addr} {b : Nat} (h : Src F p b) (s : Same F H) : Src H p b :=
  let ⟨c, n, r, e, k⟩ := h; ⟨c, n, r, s _ _ e, k⟩
/-- _law_source's promise -/
def spSource (K : PySem.W.Frag) : Sp := fun vs H Q _ => ∃ (a : Addr) (ns : List Int) (k : Nat), vs = [.ref a, .int k] ∧ SqL K H a (ns.map V.int) ∧ ns.length ≤ 63 ∧ k ≤ 1000 ∧
  ∀ H' p, Same H H' → H p = none → Src H' p (3 * k) → Q (.ref p) H'
/-- _law_next's: a number below the second argument; nothing but the source is changed -/
def spNext : Sp := fun vs H Q _ => ∃ (p : Addr) (m : Int) (b : Nat) (F : Hp), vs = [.ref p, .int m] ∧ 1 ≤ m ∧ m < 1000000 ∧ Src H p b ∧ b ≤ 1000000 ∧ F p = none ∧ Same F H ∧
  ∀ H' k, 0 ≤ k → k < m → Same F H' → Src H' p (b + 1) → Q (.int k) H'
/-- _law_pick's: an item of the list -/
def spPick : Sp := fun vs H Q _ => ∃ (p l : Addr) (xs : List V) (b : Nat) (F : Hp), vs = [.ref p, .ref l] ∧ F l = some (.lst xs) ∧ 1 ≤ xs.length ∧ xs.length ≤ 1000 ∧ Src H p b ∧ b ≤ 1000000 ∧ F p = none ∧ Same F H ∧
  ∀ H' x, x ∈ xs → Same F H' → Src H' p (b + 1) → Q x H'
/-! ### frames: what stands beside the source -/
theorem grow_same {F H : Hp} {l : Addr} {o : HO} (s : Same F H) (h : H l = none) : Same F (upd F l o) := same_new (s.free h)
theorem grow_up {F H : Hp} {l : Addr} {o : HO} (s : Same F H) : Same (upd F l o) (upd H l o) := fun b x e => by
  by_cases hb : b = l
  · subst hb
    rw [upd_same] at e ⊢
    exact e
  · rw [upd_ne hb] at e ⊢
    exact s _ _ e
theorem grow_at {F H : Hp} {p l : Addr} {o : HO} {b : Nat} (hF : F p = none) (S : Src H p b) (h : H l = none) : (upd F l o) p = none := by
  obtain ⟨u, e⟩ := S.some
  rw [upd_ne (ne_of_none e h)]
  exact hF
theorem src_new {H : Hp} {p l : Addr} {o : HO} {b : Nat} (S : Src H p b) (h : H l = none) : Src (upd H l o) p b := S.same (same_new h)
/-- what stood at b, not the source, stands there behind a call that was framed by the heap without the source -/
theorem del_get {H H' : Hp} {p b : Addr} {o : HO} (s : Same (del H p) H') (n : b ≠ p) (e : H b = some o) : H' b = some o := s _ _ (by rw [del_ne n]; exact e)
theorem src_ne {H : Hp} {p b : Addr} {n : Nat} {o : HO} (S : Src H p n) (e : H b = some o) (d : ∀ xs, o ≠ .lst xs) : b ≠ p := by
  obtain ⟨c, m, r, e2, _⟩ := S
  exact ne_of e e2 (d _)
/-- the primes -/
def primes : List Int := [2147483647, 2147483629, 2147483587, 2147483579, 2147483563, 2147483549, 2147483543, 2147483497, 2147483489, 2147483477, 2147483423]
theorem prime_at (k : Int) (h0 : 0 ≤ k) (h : k < 11) : ∃ q : Int, atI (primes.map V.int) k = some (.int q) ∧ 2 ≤ q ∧ q < 2 ^ 31 := by
  have hk : k = 0 ∨ k = 1 ∨ k = 2 ∨ k = 3 ∨ k = 4 ∨ k = 5 ∨ k = 6 ∨ k = 7 ∨ k = 8 ∨ k = 9 ∨ k = 10 := by omega
  rcases hk with rfl | rfl | rfl | rfl | rfl | rfl | rfl | rfl | rfl | rfl | rfl
  all_goals exact ⟨_, rfl, by decide, by decide⟩
theorem fmod_pos (x : Int) {m : Int} (h : 1 ≤ m) : 0 ≤ x.fmod m ∧ x.fmod m < m := by
  rw [Int.fmod_eq_emod_of_nonneg x (by omega)]
  exact ⟨Int.emod_nonneg _ (by omega), Int.emod_lt_of_pos _ (by omega)⟩
end Nb

set_option Elab.async false
set_option maxRecDepth 100000
set_option maxHeartbeats 4000000
/-! A law whose own body asks for repr of nested data: its def is run where no repr is under way. -/
namespace Nb
open PySem PySem.Spec L2
/-- what the def promises, where no repr is under way -/
def RunsG (P : Program) (w : World) (K : PySem.W.Frag) (mg : Str → Option Value) (base : Heap) (CX : CXT) (k : Nat) (f : Addr) (fd : FuncData) (ps : List Str) (sp : Sp) : Prop :=
  ∀ (A : Around) (outer : List Env) (s : Shared) (H : Hp) (args : Args) (us : List Value) (vs : List V) (Q : VK) (E : XK), A.guards = some [] → Room k A → Env0 P w K mg base A outer s H → BindsTo s fd args (ps.zip us) → Vals vs us → sp vs H Q E →
    codeAny (model P w) A (.call (.ref f) args) (CR CX outer P w H s Q E) s
section
variable {P : Program} {w : World} {K : PySem.W.Frag} {mg : Str → Option Value} {base : Heap}
theorem okG {x qual : Str} {st : Stmt} {f : Addr} {fd : FuncData} {N ps : List Str} {k : Nat} {sp : Sp} (F : Fun K x qual st f fd) (S : FnScope N ps (defScope st)) (len : ∀ vs H Q E, sp vs H Q E → vs.length = ps.length)
    (bd : ∀ (cdv : Value) (A : Around) (outer : List Env) (s : Shared) (H : Hp) (vs : List V) (Q : VK) (E : XK), A.guards = some [] → Room k (A.deeper (PyProof.Rows.envOfC qual (defScope st) s.heap.objs.size f cdv)) → sp vs H Q E →
      ∃ t, PSs (cxOf CX0 P w K mg base N qual (defScope st) f cdv A outer s H E).nox (defBody st) t ∧ t { nx := fun _ H' => Q .non H', rt := Q } (start N vs) H) : RunsG P w K mg base CX0 (k + 1) f fd ps sp := by
  obtain ⟨oc, od, kV, doc, pm, an, cdv, ct, osl, rfl, lk, hcd⟩ := F.ex
  intro A outer s H args us vs Q E gd hr e0 hb rv hs
  have inK : K.In s.heap := e0.mod.kin.keeps fun b o e => (e0.bs b o e).1
  have nl : s.heap.NoLimit := e0.mod.nolimit.keeps fun b o e => (e0.bs b o e).1
  have kinds : ∀ y ∈ ps.zip us, (defScope st).names.lookup y.1 = some .local ∨ ((defScope st).names.lookup y.1 = some .cell ∧ ((PySem.cellsFrom (s.heap.objs.size + 1) (defScope st).names []).lookup y.1).isSome = true) := by
    rintro ⟨n, v⟩ hy
    exact (S.par n (List.of_mem_zip hy).1).imp id fun q => ⟨q, PySem.W.cellsFrom_some _ _ _ (.inl q)⟩
  refine codeAny_call_function hr.depth (inK _ _ lk) rfl S.co S.gen rfl (PySem.W.codeRec_of inK hcd) (hb _ _ _ _ ?_)
  refine wpAny_newFunctionEnv_cells S.kind kinds fun env he s1 x1 => ?_
  subst he
  obtain ⟨t, ht, q⟩ := bd cdv A outer s H vs Q E gd (hr.deeper _) hs
  have I : Inv (cxOf CX0 P w K mg base N qual (defScope st) f cdv A outer s H E) [] (start N vs) H s1 := inv_start S hr.hd e0 (len _ _ _ _ hs) rv x1
  refine ⟨nl.keeps x1.toInCall.keep, codeAny_func (wpAny_mono (ht.nox.run [] s1 (start N vs) H _ I q) (fun fl s2 r => ?_) fun _ _ r => r)⟩
  cases fl with
  | ret u =>
    obtain ⟨v, σ, H2, J, e, r⟩ := r
    exact ⟨v, H2, J.os, J.bare, J.base, J.hok, e, r⟩
  | next =>
    obtain ⟨σ, H2, J, r⟩ := r
    exact ⟨.non, H2, J.os, J.bare, J.base, J.hok, rfl, r⟩
  | brk => exact False.elim r.choose_spec.choose_spec.2
  | cont => exact False.elim r.choose_spec.choose_spec.2
end
open PyProof.Rows (IntsAre AllBare)
/-- the heap at the law's call: nothing is told but the script, if it is no object of the module -/
theorem script_heap {P : Program} {w : World} {K : PySem.W.Frag} {h : Heap} {a : Addr} {vs : List Value} {ns : List Int} (inK : K.In h) (ea : h.get? a = some { cls := .type "list", data := .seq vs.toArray }) (hi : IntsAre vs ns) (hl : ns.length ≤ sizeLine) :
    ∃ H : Hp, Only H ∧ SqL K H a (ns.map V.int) ∧ HOk P w H h ∧ ∀ b, H b ≠ none → b = a ∧ K.lookup b = none := by
  have rv := vals_ints hi
  cases hk : K.lookup a with
  | none =>
    obtain ⟨H, eH⟩ : ∃ H : Hp, H = upd (fun _ => none) a (.frz { cls := .type "list", data := .seq vs.toArray } (.lst (ns.map V.int))) := ⟨_, rfl⟩
    have at_a : H a = some (.frz { cls := .type "list", data := .seq vs.toArray } (.lst (ns.map V.int))) := by
      rw [eH]
      exact upd_same
    have off : ∀ b, b ≠ a → H b = none := fun b hb => by
      rw [eH, upd_ne hb]
    refine ⟨H, fun b => ?_, .inl (.inr ⟨_, at_a⟩), fun b o e => ?_, fun b e => ?_⟩
    · by_cases hb : b = a
      · exact .inr ⟨_, _, hb ▸ at_a⟩
      · exact .inl (off b hb)
    · by_cases hb : b = a
      · subst hb
        rw [at_a] at e
        cases e
        exact ⟨ea, by rw [List.length_map]; exact hl, vs, _, rv, ea⟩
      · rw [off b hb] at e
        cases e
    · by_cases hb : b = a
      · exact ⟨hb, hb ▸ hk⟩
      · exact absurd (off b hb) e
  | some o =>
    have e := inK a o hk
    rw [ea] at e
    cases e
    exact ⟨fun _ => none, fun _ => .inl rfl, .inr ⟨_, vs.toArray, _, hk, rfl, rfl, rfl, by rw [List.size_toArray, hi.length]; exact hl, by simpa using rv⟩, fun b u z => (nomatch (show (none : Option HO) = some u from z)), fun b z => absurd rfl z⟩
theorem law_runs {P : Program} {w : World} {K : PySem.W.Frag} {mg mb : Str → Option Value} {CX : CXT} {k : Nat} {fa a : Addr} {fd : FuncData} {x : Str} {sp : Sp} {s1 : Shared} {vs : List Value} {ns : List Int}
    (inK : K.In s1.heap) (n1 : s1.heap.Ns mainGlobals mg) (n2 : s1.heap.Ns builtinsNs mb) (n3 : ∀ x : Str, x ≠ "__name__" → mb x = bootBuiltins x) (n4 : s1.heap.NoLimit) (hg : s1.gens = #[])
    (ea : s1.heap.get? a = some { cls := .type "list", data := .seq vs.toArray }) (hi : IntsAre vs ns) (hl : ns.length ≤ sizeLine) (hr : Room k callerA)
    (F : ∀ base : Heap, K.In base → base.Ns mainGlobals mg → RunsG P w K mg base CX k fa fd [x] sp) (bd : ∀ (s : Shared) (u : Value), BindsTo s fd ⟨[u], []⟩ [(x, u)])
    (hs : ∀ H : Hp, Only H → SqL K H a (ns.map V.int) → sp [.ref a] H (fun v _ => v = .bl true) fun _ _ _ => False) (hx : ∀ H e s', CX [] H s1 (fun _ _ _ => False) e s' → False) :
    codeAny (model P w) callerA (.call (.ref fa) ⟨[.ref a], []⟩) (fun r s' => r = .ok (.ret (.bool true)) ∧ OldK s1.heap s'.heap ∧ s'.os = s1.os ∧ AllBare s'.gens) s1 := by
  obtain ⟨H, hO, hS, hok, hA⟩ := script_heap (P := P) (w := w) inK ea hi hl
  have notDict : ∀ {b : Addr} {o : Obj} {es : Array DictEntry} {ep : Nat}, s1.heap.get? b = some o → o.data = .dict es ep → H b = none := fun {b o es ep} e d => by
    cases q : H b with
    | none => rfl
    | some u =>
      obtain ⟨rfl, _⟩ := hA b (by rw [q]; exact fun z => nomatch z)
      rw [ea] at e
      cases e
      cases (show Data.seq vs.toArray _ = Data.dict es ep from d)
  have names : ∀ {b : Addr} {m : Str → Option Value}, s1.heap.Ns b m → (hidT s1.heap H).Ns b m := fun ⟨o, es, ep, e, d, r⟩ => ⟨o, es, ep, hidT_get e (notDict e d), d, r⟩
  have inB : K.In (hidT s1.heap H) := fun b o e => hidT_get (inK b o e) (by
    cases q : H b with
    | none => rfl
    | some u =>
      have z := (hA b (by rw [q]; exact fun z => nomatch z)).2
      rw [z] at e
      cases e)
  obtain ⟨mc, c1, c2⟩ := n4
  have e0 : Env0 P w K mg (hidT s1.heap H) callerA [] s1 H := ⟨rfl, ⟨inB, names n1, ⟨mb, names n2, n3⟩, ⟨mc, names c1, c2⟩⟩, fun b o e => of_hidT e, Nat.le_of_eq (hidT_size _ _), trivial, fun b hb => (nomatch hb), hok, .of_eq hg⟩
  refine codeAny_mono (F _ inB (names n1) callerA [] s1 H ⟨[.ref a], []⟩ [.ref a] [.ref a] _ _ rfl hr e0 (bd s1 (.ref a)) (.cons rfl .nil) (hs H hO hS)) fun r s2 q => ?_
  cases r with
  | error e => exact (hx H e s2 q).elim
  | ok fl =>
    cases fl with
    | ret u =>
      obtain ⟨v, H2, os, bare, un, hok2, r1, r2⟩ := q
      cases (show v = .bl true from r2)
      cases (show u = Value.bool true from r1)
      refine ⟨rfl, OldK.of_keep fun b o e => ?_, os, bare⟩
      rcases hO b with z | ⟨ob, xs, z⟩
      · exact un.keep b o e z (fun z => nomatch z) (fun z => nomatch z)
      · obtain ⟨g1, _⟩ := hok b _ z
        obtain ⟨g2, _⟩ := hok2 b _ (un.frzs b ob _ z)
        rw [e] at g1
        cases g1
        exact g2
    | next => exact False.elim q
    | brk => exact False.elim q
    | cont => exact False.elim q
/-- the head, where the law's own def is run with no repr under way -/
theorem walk_ofG {l : PySem.W.OpenLaw} {n k : Nat} {q : Program} {loose : List Str} {XP : (Str → Option Value) → Heap → Prop} {YP : World → Heap → Prop} {d : DefRec} {K : Params → PySem.W.Frag} {CX : World → CXT} {sp : World → Sp} {x : Str}
    (hn : l.most = some n) (hm : n ≤ sizeLine) (hd : d.params.defaults = []) (hr : Room k callerA) (hY : ∀ (w : World) (h : Heap), YP w h → (K w.params).In h)
    (F : ∀ (w : World) (mg : Str → Option Value) (fa : Addr) (h : Heap), (K w.params).In h → h.Ns mainGlobals mg → mg d.name = some (.ref fa) → ∃ fd : FuncData, (∀ (s : Shared) (u : Value), BindsTo s fd ⟨[u], []⟩ [(x, u)]) ∧
      ∀ base : Heap, (K w.params).In base → base.Ns mainGlobals mg → RunsG l.prog w (K w.params) mg base (CX w) k fa fd [x] (sp w))
    (hs : ∀ (w : World) (H : Hp) (a : Addr) (ns : List Int), ns.length ≤ n → Only H → SqL (K w.params) H a (ns.map V.int) → sp w [.ref a] H (fun v _ => v = .bl true) fun _ _ _ => False)
    (hx : ∀ (w : World) (H : Hp) (s : Shared) (e : Value) (s' : Shared), CX w [] H s (fun _ _ _ => False) e s' → False) : PySem.W.WalkO q loose XP YP l.row.toRowW d [] (fun f vs => PySem.call f vs) := by
  refine Att.attach_call hn hd fun w s0 s1 mg mb fa o pm cd doc a vs ns G Y e1 e2 e3 e4 ea hi hl hg => ?_
  obtain ⟨fd, bd, R⟩ := F w mg fa _ (hY w _ Y) G.T.g e4
  exact law_runs (hY w _ Y) G.T.g G.T.b G.T.builtins G.T.nolimit hg ea hi (Nat.le_trans hl hm) hr R bd (fun H hO hS => hs w H a ns hl hO hS) fun H e s' => hx w H s1 e s'
end Nb

set_option Elab.async false
set_option maxRecDepth 100000
set_option maxHeartbeats 4000000
/-! A def of the text that keeps its promise, with all that a caller must know of it. -/
namespace Nb
open PySem L2
structure Dn (P : Program) (w : World) (K : PySem.W.Frag) (mg : Str → Option Value) (base : Heap) (CX : CXT) (k : Nat) (x : Str) (ps : List Str) (sp : Sp) : Prop where
  ex : ∃ (f : Addr) (fd : FuncData), PySem.W.keepIn K (.ref f) = true ∧ Binds K fd ps [] ∧ mg x = some (.ref f) ∧ FnOk P w K mg base CX k f fd ps sp
theorem Dn.imp {P : Program} {w : World} {K : PySem.W.Frag} {mg : Str → Option Value} {base : Heap} {CX : CXT} {k : Nat} {x : Str} {ps : List Str} {sp sp' : Sp} (D : Dn P w K mg base CX k x ps sp) (h : ∀ vs H Q E, sp' vs H Q E → sp vs H Q E) : Dn P w K mg base CX k x ps sp' :=
  let ⟨f, fd, a, b, c, F⟩ := D.ex
  ⟨f, fd, a, b, c, F.imp h⟩
section
variable {X : Cx} {CX : CXT} {k : Nat} {ps : List Str} {sp : Sp} {E : XK} {W : L2.St → XK} {x : Str} {p pos : Pos} {e : Expr} {es : List Expr} {t : TA}
theorem pe_D (D : Dn X.prog X.w X.K X.mg X.base CX k x ps sp) (hr : Room k X.A) (hg : Gl X x) (hx : Passes CX X E) (ha : PA X (e :: es) t)
    (hdb : (x == ("__debug__" : Str)) = false := by decide) (he : starEach (e :: es) X.env = (false, eval e X.env) :: starEach es X.env := by rfl) (hpl : (backTo pos (starEach es X.env)).any (·.1) = false := by rfl) : PE X (.Call (.Name x p) (e :: es) [] pos) (tCall sp [] E t) :=
  let ⟨_, _, kp, b, g, G⟩ := D.ex
  pe_call G hr hg g kp b .nil hx ha hdb he hpl
theorem pe_D0 (D : Dn X.prog X.w X.K X.mg X.base CX k x ps sp) (hr : Room k X.A) (hg : Gl X x) (hx : Passes CX X E) (hdb : (x == ("__debug__" : Str)) = false := by decide) : PE X (.Call (.Name x p) [] [] pos) (tCall sp [] E tNil) :=
  let ⟨_, _, kp, b, g, G⟩ := D.ex
  pe_call0 G hr hg g kp b .nil hx hdb
theorem pe_DS (D : Dn X.prog X.w X.K X.mg X.base CX k x ps sp) (hr : Room k X.A) (hg : Gl X x) (hx : ∀ σ, PassesAt CX X σ (W σ)) (ha : PA X (e :: es) t)
    (hdb : (x == ("__debug__" : Str)) = false := by decide) (he : starEach (e :: es) X.env = (false, eval e X.env) :: starEach es X.env := by rfl) (hpl : (backTo pos (starEach es X.env)).any (·.1) = false := by rfl) : PE X (.Call (.Name x p) (e :: es) [] pos) (tCallS sp W t) :=
  let ⟨_, _, kp, b, g, G⟩ := D.ex
  pe_callS G hr hg g kp b hx ha hdb he hpl
end
end Nb

set_option Elab.async false
set_option maxRecDepth 100000
set_option maxHeartbeats 4000000
/-! The rules of new objects, told by what stood before: every heap that keeps what was told, with the new object in it. -/
namespace Nb
open PySem PySem.Spec PyProof.Rows
open L2 hiding del del_ne del_same
def aUp (t : TA) : TA := fun σ H Q => ∃ R : List V → Hp → Prop, t σ H R ∧ ∀ vs H1, R vs H1 → Q vs H1
def eUp (t : TE) : TE := fun σ H Q => ∃ R : VK, t σ H R ∧ ∀ v H1, R v H1 → Q v H1
section
variable {X : Cx} {e : Expr} {es : List Expr} {t u : TE} {ta : TA} {pos : Pos}
theorem PE.to (h : PE X e t) (k : ∀ σ H Q, u σ H Q → t σ H Q) : PE X e u := ⟨fun pins s σ H Q I z => h.run pins s σ H Q I (k _ _ _ z)⟩
theorem pa_up (h : PA X es ta) : PA X es (aUp ta) := ⟨fun pos pins s σ H _ I ⟨R, r, k⟩ => thn (h.run pos pins s σ H R I r) fun us s1 ⟨vs, H1, I1, r1, q⟩ => ⟨vs, H1, I1, r1, k vs H1 q⟩⟩
theorem pe_up (h : PE X e t) : PE X e (eUp t) := ⟨fun pins s σ H _ I ⟨R, r, k⟩ => thn (h.run pins s σ H R I r) fun us s1 ⟨v, H1, I1, r1, q⟩ => ⟨v, H1, I1, r1, k v H1 q⟩⟩
/-- [e, ..] -/
def tLstS (ta : TA) : TE := fun σ H Q => ta σ H fun vs H1 => vs.length ≤ 100000 ∧ ∀ H2 l, Same H1 H2 → H1 l = none → H2 l = some (.lst vs) → Q (.ref l) H2
theorem line100 {n : Nat} (h : n ≤ 100000) : n ≤ sizeLine := Nat.le_trans h (by decide)
theorem pe_lstS (h : PA X es ta) : PE X (.List es pos) (tLstS ta) := PE.to (pe_lst (pa_up h)) fun σ H Q z => ⟨_, z, fun vs H1 ⟨l, q⟩ => ⟨line100 l, fun a na => q _ a (same_new na) na upd_same⟩⟩
/-- (e, ..) -/
def tTupS (ta : TA) : TE := fun σ H Q => ta σ H fun vs H1 => vs.length ≤ 100000 ∧ ∀ H2 l, Same H1 H2 → H1 l = none → H2 l = some (.tup vs) → Q (.ref l) H2
theorem pe_tupS {c} (h : PA X es ta) : PE X (.Tuple es c pos) (tTupS ta) := PE.to (pe_tup (pa_up h)) fun σ H Q z => ⟨_, z, fun vs H1 ⟨l, q⟩ => ⟨line100 l, fun a na => q _ a (same_new na) na upd_same⟩⟩
theorem OpR.to {f : Value → Value → Sem Value} {r r' : R2} (h : OpR X f r) (k : ∀ x y H Q, r' x y H Q → r x y H Q) : OpR X f r' := fun pins s σ H x y v u Q I rx ry z => h pins s σ H x y v u Q I rx ry (k _ _ _ _ z)
theorem CallR.to {f : Value} {r r' : List V → Hp → VK → Prop} (h : CallR X f r) (k : ∀ xs H Q, r' xs H Q → r xs H Q) : CallR X f r' := fun pins s σ H xs us Q I rr z => h pins s σ H xs us Q I rr (k _ _ _ z)
/-- list + list -/
def rCatS : R2 := fun x y H Q => ∃ l b xs zs, x = .ref l ∧ y = .ref b ∧ H l = some (.lst xs) ∧ H b = some (.lst zs) ∧ xs.length + zs.length ≤ 100000 ∧ ∀ H2 p, Same H H2 → H p = none → H2 p = some (.lst (xs ++ zs)) → Q (.ref p) H2
theorem op_catS : OpR X (binaryOp .Add) rCatS := OpR.to op_cat fun x y H Q ⟨l, b, xs, zs, e1, e2, h1, h2, z, q⟩ => ⟨l, b, xs, zs, e1, e2, h1, h2, line100 z, fun p np => q _ p (same_new np) np upd_same⟩
/-- list * int -/
def rRepS : R2 := fun x y H Q => ∃ (l : Addr) (k : Nat) (xs : List V), x = .ref l ∧ y = .int k ∧ H l = some (.lst xs) ∧ k ≤ 100000 ∧ xs.length * k ≤ 100000 ∧ ∀ H2 p, Same H H2 → H p = none → H2 p = some (.lst (List.replicate k xs).flatten) → Q (.ref p) H2
theorem op_repS : OpR X (binaryOp .Mult) rRepS := OpR.to op_rep fun x y H Q ⟨l, k, xs, e1, e2, h1, h2, z, q⟩ => ⟨l, k, xs, e1, e2, h1, by omega, by omega, line100 z, fun p np => q _ p (same_new np) np upd_same⟩
/-- tuple + tuple -/
def rCatT (K : PySem.W.Frag) : R2 := fun x y H Q => ∃ a b xs ys, x = .ref a ∧ y = .ref b ∧ H a = some (.tup xs) ∧ H b = some (.tup ys) ∧ xs.length + ys.length ≤ 100000 ∧ ∀ H2 p, Same H H2 → H2 p = some (.tup (xs ++ ys)) → Q (.ref p) H2
theorem op_catT' : OpR X (binaryOp .Add) (rCatT X.K) := OpR.to op_catA fun x y H Q ⟨a, b, xs, ys, e1, e2, h1, h2, z, q⟩ => ⟨a, b, xs, ys, e1, e2, SqT.of h1, SqT.of h2, line100 z,
  fun e => q _ b (Same.refl H) (by rw [e]; exact h2), fun _ e => q _ a (Same.refl H) (by rw [e, List.append_nil]; exact h1), fun _ _ p np => q _ p (same_new np) upd_same⟩
/-- tuple(xs), list(xs) -/
theorem cr_tupleS : CallR X (.type "tuple") (fun xs H Q => ∃ p ys, xs = [.ref p] ∧ (H p = some (.lst ys) ∨ H p = some (.tup ys)) ∧ ∀ H2 l, Same H H2 → H2 l = some (.tup ys) → Q (.ref l) H2) :=
  CallR.to call_tuple_of fun xs H Q ⟨p, ys, e, h, q⟩ => ⟨p, ys, e, h.elim (fun h => .inl ⟨SqL.of h, fun l nl => q _ l (same_new nl) upd_same⟩) fun h => .inr ⟨SqT.of h, q H p (Same.refl H) h⟩⟩
theorem cr_listS : CallR X (.type "list") (fun xs H Q => ∃ p ys, xs = [.ref p] ∧ (SqL X.K H p ys ∨ SqT X.K H p ys) ∧ ∀ H2 l, Same H H2 → H l = none → H2 l = some (.lst ys) → Q (.ref l) H2) :=
  CallR.to call_list_of fun xs H Q ⟨p, ys, e, h, q⟩ => ⟨p, ys, e, h, fun l nl => q _ l (same_new nl) nl upd_same⟩
end
/-! ### defs that are run where no repr is under way -/
structure DnG (P : Program) (w : World) (K : PySem.W.Frag) (mg : Str → Option Value) (base : Heap) (CX : CXT) (k : Nat) (x : Str) (ps : List Str) (sp : Sp) : Prop where
  ex : ∃ (f : Addr) (fd : FuncData), PySem.W.keepIn K (.ref f) = true ∧ Binds K fd ps [] ∧ mg x = some (.ref f) ∧ (∀ vs H Q E, sp vs H Q E → vs.length = ps.length) ∧ RunsG P w K mg base CX k f fd ps sp
section
variable {X : Cx} {CX : CXT} {k : Nat} {ps : List Str} {sp : Sp} {E : XK} {x : Str} {p pos : Pos} {e : Expr} {es : List Expr} {t : TA}
theorem pe_DG (D : DnG X.prog X.w X.K X.mg X.base CX k x ps sp) (gd : X.A.guards = some []) (hr : Room k X.A) (hg : Gl X x) (hx : Passes CX X E) (ha : PA X (e :: es) t)
    (hdb : (x == ("__debug__" : Str)) = false := by decide) (he : starEach (e :: es) X.env = (false, eval e X.env) :: starEach es X.env := by rfl) (hpl : (backTo pos (starEach es X.env)).any (·.1) = false := by rfl) : PE X (.Call (.Name x p) (e :: es) [] pos) (tCall sp [] E t) := by
  obtain ⟨f, fd, kp, b, g, len, G⟩ := D.ex
  refine ⟨fun pins s σ H Q I h => wpAny_Call_Name_kw (ld_glob I hg g (PySem.W.callWith_K (h₀ := X.base) I.ok.mod.kin kp (thn (ha.run pos pins s σ H _ I h) fun us s1 ⟨vs, H1, I1, r, q⟩ => ⟨I1.kIn, ?_⟩) he hpl) hdb)⟩
  have q : sp vs H1 Q E := by
    have q' : sp (vs ++ []) H1 Q E := q
    rwa [List.append_nil] at q'
  have hl : (us ++ []).length = ps.length := by rw [List.append_nil, ← Paired.length r]; exact len _ _ _ _ q
  refine wpAny_call (codeAny_mono (G X.A X.stack s1 H1 ⟨us, []⟩ us vs Q E gd hr I1.env0 (by simpa using b s1 us I1.kIn hl) r q) fun r s' hq => ?_)
  cases r with
  | error e => exact hx pins σ H1 s1 e s' I1 hq
  | ok fl =>
    cases fl with
    | ret u => exact I1.after hq
    | next => exact False.elim hq
    | brk => exact False.elim hq
    | cont => exact False.elim hq
end
/-! ### repr of data in which empty dicts may stand -/
mutual
inductive Tz (H : Hp) : V → PyData → Prop
  | non : Tz H .non .none
  | bl (b) : Tz H (.bl b) (.bool b)
  | int (i) : Tz H (.int i) (.int i)
  | str (z) : Tz H (.str z) (.str z)
  | lst {a xs ds} : H a = some (.lst xs) → Tzs H xs ds → Tz H (.ref a) (.list ds)
  | tup {a xs ds} : H a = some (.tup xs) → Tzs H xs ds → Tz H (.ref a) (.tuple ds)
  | dct {a} : H a = some (.dK []) → Tz H (.ref a) (.dict [])
inductive Tzs (H : Hp) : List V → List PyData → Prop
  | nil : Tzs H [] []
  | cons {x d xs ds} : Tz H x d → Tzs H xs ds → Tzs H (x :: xs) (d :: ds)
end
mutual
theorem tz_same {H H' : Hp} (s : Same H H') : ∀ {x : V} {d : PyData}, Tz H x d → Tz H' x d
  | _, _, .non => .non
  | _, _, .bl b => .bl b
  | _, _, .int i => .int i
  | _, _, .str z => .str z
  | _, _, .lst e h => .lst (s _ _ e) (tzs_same s h)
  | _, _, .tup e h => .tup (s _ _ e) (tzs_same s h)
  | _, _, .dct e => .dct (s _ _ e)
theorem tzs_same {H H' : Hp} (s : Same H H') : ∀ {xs : List V} {ds : List PyData}, Tzs H xs ds → Tzs H' xs ds
  | _, _, .nil => .nil
  | _, _, .cons h k => .cons (tz_same s h) (tzs_same s k)
end
mutual
theorem tz_reads {X : Cx} {pins : List (Addr × Obj)} {σ : L2.St} {H : Hp} {s : Shared} (I : Inv X pins σ H s) : ∀ {x : V} {d : PyData} {u : Value}, Tz H x d → RelV x u → ∃ as, Reads s.heap u d as ∧ ∀ a ∈ as, H a ≠ none
  | _, _, _, .non, r => by cases r; exact ⟨_, .none, fun _ h => nomatch h⟩
  | _, _, _, .bl b, r => by cases r; exact ⟨_, .bool b, fun _ h => nomatch h⟩
  | _, _, _, .int i, r => by obtain ⟨t, rfl⟩ := r; exact ⟨_, .int i t, fun _ h => nomatch h⟩
  | _, _, _, .str z, r => by obtain ⟨t, rfl⟩ := r; exact ⟨_, .str z t, fun _ h => nomatch h⟩
  | _, _, _, .lst (a := a) e h, r => by
    cases r
    obtain ⟨its, rv, ⟨o, n, ho, hc, _, hd⟩, _⟩ := I.list (SqL.of e)
    obtain ⟨as, hr, al⟩ := tzs_reads I h rv
    refine ⟨_, .list ho hc hd hr, fun b hb => ?_⟩
    rcases List.mem_cons.mp hb with z | z
    · rw [z, e]
      exact fun q => nomatch q
    · exact al b z
  | _, _, _, .tup e h, r => by
    cases r
    obtain ⟨its, rv, ⟨o, ho, hc, n, hd⟩, _⟩ := I.tuple (SqT.of e)
    obtain ⟨as, hr, al⟩ := tzs_reads I h rv
    exact ⟨_, .tuple ho hc hd hr, al⟩
  | _, _, _, .dct (a := a) e, r => by
    cases r
    have ho : ObjOk X.prog X.w H s.heap a (.dK []) := I.hok a _ e
    obtain ⟨_, nm, vs, kv, o, es, ep, e1, e2, e3, _, e5, _⟩ := ho
    cases kv
    have e6 : es.toList = [] := by
      cases hz : es.toList with
      | nil => rfl
      | cons z zs =>
        rw [hz] at e5
        cases e5
    refine ⟨_, .dict (as := []) (bs := []) e1 e2.1 e3 (by rw [e6]; exact .nil) (by rw [e6]; exact .nil), fun b hb => ?_⟩
    have hb : b = a := by simpa using hb
    rw [hb, e]
    exact fun q => nomatch q
theorem tzs_reads {X : Cx} {pins : List (Addr × Obj)} {σ : L2.St} {H : Hp} {s : Shared} (I : Inv X pins σ H s) : ∀ {xs : List V} {ds : List PyData} {us : List Value}, Tzs H xs ds → Vals xs us → ∃ as, ReadsAll s.heap us ds as ∧ ∀ a ∈ as, H a ≠ none
  | _, _, _, .nil, r => by cases r; exact ⟨_, .nil, fun _ h => nomatch h⟩
  | _, _, _, .cons h k, r => by
    cases r with
    | cons r1 r2 =>
      obtain ⟨as, q1, a1⟩ := tz_reads I h r1
      obtain ⟨bs, q2, a2⟩ := tzs_reads I k r2
      exact ⟨_, .cons q1 q2, fun a ha => (List.mem_append.mp ha).elim (a1 a) (a2 a)⟩
end
/-- the module's table of modules is a written object -/
def SysIn (K : PySem.W.Frag) : Prop := (K.lookup sysModules).isSome = true
theorem cr_reprZ {X : Cx} (sy : SysIn X.K) (g : X.A.guards = some []) (u : X.A.units + 100 < cLine) : CallR X (.builtin "repr") (fun xs H Q => ∃ (x : V) (d : PyData), xs = [x] ∧ Tz H x d ∧ d.showable = true ∧ d.depth ≤ 60 ∧ d.shown.length ≤ sizeLine ∧ Q (.str d.shown) H) := by
  intro pins s σ H xs us Q I r h
  obtain ⟨x, d, rfl, hd, hs, hn, hz, q⟩ := h
  obtain ⟨v, rfl, rv⟩ := vals1 r
  obtain ⟨as, rd, al⟩ := tz_reads I hd rv
  obtain ⟨so, hso⟩ := Option.isSome_iff_exists.mp sy
  have nsy : sysModules ∉ as := fun hm => al _ hm (I.bs _ _ (I.ok.mod.kin _ _ hso)).2
  have byRef : ∀ a : Addr, v = .ref a → wpAny (model X.prog X.w) X.A (call (.builtin "repr") [v]) (EP X pins σ Q) X.xe s := fun a e => by
    subst e
    exact repr_of_reads' rd hs (fun _ => nsy) g (by omega) (fun _ _ e => e) (fun h' t tk hk => ⟨.str d.shown, H, I.kept (t' := tk) hk, ⟨_, rfl⟩, q⟩) hz
  cases hd with
  | non =>
    cases (show v = Value.none from rv)
    exact PySem.P.repr_of_none ⟨.str _, H, I.tok _, ⟨_, rfl⟩, q⟩
  | bl b =>
    cases (show v = Value.bool b from rv)
    exact PySem.P.repr_of_bool ⟨.str _, H, I.tok _, ⟨_, rfl⟩, q⟩
  | int i =>
    obtain ⟨t, rfl⟩ := rv
    exact PySem.P.repr_of_int (of_decide_eq_true hs) ⟨.str _, H, I.tok _, ⟨_, rfl⟩, q⟩
  | str z =>
    obtain ⟨t, rfl⟩ := rv
    exact PySem.P.repr_of_str ⟨.str _, H, I.tok _, ⟨_, rfl⟩, q⟩ hz
  | lst e ts => exact byRef _ rv
  | tup e ts => exact byRef _ rv
  | dct e => exact byRef _ rv
end Nb
namespace Nb
open PySem PySem.Spec PyProof.Rows
open L2 hiding del del_ne del_same
theorem eqv_bls : ∀ xs ys : List Bool, PyData.eqvAll (xs.map PyData.bool) (ys.map PyData.bool) = decide (xs = ys)
  | [], [] => rfl
  | [], y :: ys => rfl
  | x :: xs, [] => rfl
  | x :: xs, y :: ys => by
    have ih := eqv_bls xs ys
    simp only [List.map_cons, PyData.eqvAll, ih]
    cases x <;> cases y <;> simp [PyData.eqv]
theorem dp_bls {K : PySem.W.Frag} {H : Hp} : ∀ bs : List Bool, DpAll K H (bs.map V.bl) (bs.map PyData.bool)
  | [] => .nil
  | b :: bs => .cons (.bl b) (dp_bls bs)
theorem fine_bls (bs : List Bool) : Fine 1 (.list (bs.map PyData.bool)) := fine_list fun d hd => by
  obtain ⟨b, _, rfl⟩ := List.mem_map.mp hd
  exact fine_bl b
/-- lists of bools compared -/
def rBls (k : Bool → Bool) : R2 := fun x y H Q => ∃ (a b : Addr) (xs ys : List Bool), x = .ref a ∧ y = .ref b ∧ H a = some (.lst (xs.map V.bl)) ∧ H b = some (.lst (ys.map V.bl)) ∧ Q (.bl (k (decide (xs = ys)))) H
section
variable {X : Cx}
theorem op_eqBls (hu : X.A.units + 64 < cLine) : OpR X (compareOp .Eq) (rBls id) := OpR.to (op_eqD hu) fun x y H Q h => by
  obtain ⟨a, b, xs, ys, rfl, rfl, h1, h2, q⟩ := h
  refine ⟨.list (xs.map PyData.bool), .list (ys.map PyData.bool), .lst (SqL.of h1) (dp_bls xs), .lst (SqL.of h2) (dp_bls ys), (fine_bls xs).shaped (by decide), (fine_bls ys).shaped (by decide), ?_⟩
  have e : PyData.eqv (.list (xs.map PyData.bool)) (.list (ys.map PyData.bool)) = decide (xs = ys) := by rw [← eqv_bls]; simp [PyData.eqv]
  rw [e]
  exact q
theorem op_neBls (hu : X.A.units + 64 < cLine) : OpR X (compareOp .NotEq) (rBls not) := OpR.to (op_neD hu) fun x y H Q h => by
  obtain ⟨a, b, xs, ys, rfl, rfl, h1, h2, q⟩ := h
  refine ⟨.list (xs.map PyData.bool), .list (ys.map PyData.bool), .lst (SqL.of h1) (dp_bls xs), .lst (SqL.of h2) (dp_bls ys), (fine_bls xs).shaped (by decide), (fine_bls ys).shaped (by decide), ?_⟩
  have e : PyData.eqv (.list (xs.map PyData.bool)) (.list (ys.map PyData.bool)) = decide (xs = ys) := by rw [← eqv_bls]; simp [PyData.eqv]
  rw [e]
  exact q
end
end Nb
namespace Nb
open PySem PySem.Spec PyProof.Rows
open L2 hiding del del_ne del_same
theorem eqv_ints : ∀ xs ys : List Int, PyData.eqvAll (xs.map PyData.int) (ys.map PyData.int) = decide (xs = ys)
  | [], [] => rfl
  | [], y :: ys => rfl
  | x :: xs, [] => rfl
  | x :: xs, y :: ys => by
    simp only [List.map_cons, PyData.eqvAll, eqv_ints xs ys, PyData.eqv]
    rw [Bool.eq_iff_iff]
    simp
/-- lists of ints compared -/
def rInts (k : Bool → Bool) : R2 := fun x y H Q => ∃ (a b : Addr) (xs ys : List Int), x = .ref a ∧ y = .ref b ∧ H a = some (.lst (xs.map V.int)) ∧ H b = some (.lst (ys.map V.int)) ∧ Q (.bl (k (decide (xs = ys)))) H
section
variable {X : Cx}
theorem op_eqInts (hu : X.A.units + 64 < cLine) : OpR X (compareOp .Eq) (rInts id) := OpR.to (op_eqD hu) fun x y H Q h => by
  obtain ⟨a, b, xs, ys, rfl, rfl, h1, h2, q⟩ := h
  refine ⟨.list (xs.map PyData.int), .list (ys.map PyData.int), .lst (SqL.of h1) (dp_ints xs), .lst (SqL.of h2) (dp_ints ys), (fine_ints xs).shaped (by decide), (fine_ints ys).shaped (by decide), ?_⟩
  have e : PyData.eqv (.list (xs.map PyData.int)) (.list (ys.map PyData.int)) = decide (xs = ys) := by rw [← eqv_ints]; simp [PyData.eqv]
  rw [e]
  exact q
theorem op_neInts (hu : X.A.units + 64 < cLine) : OpR X (compareOp .NotEq) (rInts not) := OpR.to (op_neD hu) fun x y H Q h => by
  obtain ⟨a, b, xs, ys, rfl, rfl, h1, h2, q⟩ := h
  refine ⟨.list (xs.map PyData.int), .list (ys.map PyData.int), .lst (SqL.of h1) (dp_ints xs), .lst (SqL.of h2) (dp_ints ys), (fine_ints xs).shaped (by decide), (fine_ints ys).shaped (by decide), ?_⟩
  have e : PyData.eqv (.list (xs.map PyData.int)) (.list (ys.map PyData.int)) = decide (xs = ys) := by rw [← eqv_ints]; simp [PyData.eqv]
  rw [e]
  exact q
/-- {} -/
theorem pe_dnewS {pos : Pos} : PE X (.Dict [] [] pos) (fun _ H Q => ∀ H2 d, Same H H2 → H d = none → H2 d = some (.dK []) → Q (.ref d) H2) := PE.to pe_dnewK fun σ H Q z d hd => z _ d (same_new hd) hd upd_same
end
theorem tzs_rep {H : Hp} {x : V} {d : PyData} (h : Tz H x d) : ∀ n, Tzs H (List.replicate n x) (List.replicate n d)
  | 0 => .nil
  | n + 1 => .cons h (tzs_rep h n)
/-- what stands in a heap beside the source -/
theorem del_keep {H : Hp} {p a : Addr} {o : HO} (e : H a = some o) (n : a ≠ p) : del H p a = some o := by rw [del_ne n]; exact e
theorem same_upd {F H : Hp} {p : Addr} (s : Same F H) (h : F p = none) : Same F (del H p) := same_del s h
theorem del_mono {H H' : Hp} {p : Addr} (s : Same H H') : Same (del H p) (del H' p) := same_del (del_same.trans s) del_at
theorem src_away {H : Hp} {p l : Addr} {b : Nat} (S : Src H p b) (h : H l = none) : l ≠ p := fun z => by
  obtain ⟨c, n, r, e, _⟩ := S
  rw [z, e] at h
  cases h
end Nb
namespace Nb
open PySem L2
theorem un100 {k : Nat} {A : Around} (hr : Room k A) : A.units + 100 < cLine := by
  have := hr.un
  omega
end Nb
namespace Nb
open PySem L2
/-- a law's own promise -/
def spLaw0 (K : PySem.W.Frag) : Sp := fun vs H Q _ => ∃ (a : Addr) (ns : List Int), vs = [.ref a] ∧ SqL K H a (ns.map V.int) ∧ ns.length ≤ 63 ∧ ∀ H', Q (.bl true) H'
end Nb

set_option Elab.async false
set_option linter.all false
set_option maxRecDepth 100000
set_option maxHeartbeats 4000000
/-! Comprehensions that change nothing that was told: what they give, item by item. -/
namespace Nb
open PySem
open L2 hiding del del_ne del_same
/-- item by item -/
inductive F2 {α β : Type} (R : α → β → Prop) : List α → List β → Prop
  | nil : F2 R [] []
  | cons {x y xs ys} : R x y → F2 R xs ys → F2 R (x :: xs) (y :: ys)
theorem f2_snoc {α β : Type} {R : α → β → Prop} : ∀ {xs : List α} {ys : List β} {x : α} {y : β}, F2 R xs ys → R x y → F2 R (xs ++ [x]) (ys ++ [y])
  | _, _, _, _, .nil, h => .cons h .nil
  | _, _, _, _, .cons a b, h => .cons a (f2_snoc b h)
theorem f2_imp {α β : Type} {R S : α → β → Prop} (k : ∀ a b, R a b → S a b) : ∀ {xs : List α} {ys : List β}, F2 R xs ys → F2 S xs ys
  | _, _, .nil => .nil
  | _, _, .cons a b => .cons (k _ _ a) (f2_imp k b)
theorem f2_len {α β : Type} {R : α → β → Prop} : ∀ {xs : List α} {ys : List β}, F2 R xs ys → xs.length = ys.length
  | _, _, .nil => rfl
  | _, _, .cons _ b => congrArg (· + 1) (f2_len b)
theorem f2_map {α β : Type} {f : α → β} : ∀ {xs : List α} {ys : List β}, F2 (fun x y => y = f x) xs ys → ys = xs.map f
  | _, _, .nil => rfl
  | _, _, .cons a b => by rw [a, f2_map b]; rfl
theorem f2_get {α β : Type} {R : α → β → Prop} : ∀ {xs : List α} {ys : List β} {i : Nat} {y : β}, F2 R xs ys → ys[i]? = some y → ∃ x, xs[i]? = some x ∧ R x y
  | _, _, 0, _, .cons (x := x) a _, h => ⟨x, rfl, by cases h; exact a⟩
  | _, _, i + 1, _, .cons _ b, h => f2_get (i := i) b h
theorem f2_getl {α β : Type} {R : α → β → Prop} : ∀ {xs : List α} {ys : List β} {i : Nat} {x : α}, F2 R xs ys → xs[i]? = some x → ∃ y, ys[i]? = some y ∧ R x y
  | _, _, 0, _, .cons (y := y) a _, h => ⟨y, rfl, by cases h; exact a⟩
  | _, _, i + 1, _, .cons _ b, h => f2_getl (i := i) b h
section
variable {J : It} {n : Nat} {G : Hp → Prop} {Y : Nat → Hp → V → Hp → Prop} {g : TG} {tt : TT} {te : TE} {vs : List Nat} {σ : L2.St} {H1 : Hp} {D : Addr} {Qd : Hp → Prop}
/-- what a comprehension's rule asks for behind the new list -/
def LcGoal (J : It) (g : TG) (tt : TT) (te : TE) (vs : List Nat) (σ : L2.St) (H1 : Hp) (D : Addr) (Qd : Hp → Prop) : Prop :=
    ∃ W : Nat → Nat → Hp → Prop, (∃ m, W 0 m (upd H1 D (.lst []))) ∧ ∀ i m H, W i m H →
      (J.stop i H ∧ Qd H) ∨ (J.go i H ∧ ∃ Nx : Hp → Prop, (∀ H', Nx H' → ∃ m', m' < m ∧ W (i + 1) m' H') ∧ ∀ x H', J.yld i H x H' → g x (wipe σ vs) H' fun σ2 H2 => wipe σ2 vs = wipe σ vs ∧ tt σ2 H2 fun b H3 =>
        if b = true then te σ2 H3 fun y H4 => ∃ acc, H4 D = some (.lst acc) ∧ acc.length < sizeLine ∧ Nx (upd H4 D (.lst (acc ++ [y]))) else Nx H3)
/-- the items are told by R, under which nothing that is told is lost -/
theorem lcR (w : Walk J n G Y) (p : Nat → Bool) (R : Nat → V → Hp → Prop) (hR : ∀ i y H H', Same H H' → R i y H → R i y H') (hn : n ≤ 100000) (hD : H1 D = none) (hG : ∀ H, Same H1 H → G H)
    (hs : ∀ i x H H' (Nx : VK) (Nf : Hp → Prop), i < n → Same H1 H → H D ≠ none → Y i H x H' → (p i = true → ∀ y H4, Same H H4 → R i y (del H4 D) → Nx y H4) → (p i = false → ∀ H3, Same H H3 → Nf H3) →
      g x (wipe σ vs) H' fun σ2 H2 => wipe σ2 vs = wipe σ vs ∧ tt σ2 H2 fun b H3 => if b = true then te σ2 H3 Nx else Nf H3)
    (hd : ∀ H ys, Same H1 H → H D = some (.lst ys) → F2 (fun i y => R i y H) ((List.range n).filter p) ys → Qd H) : LcGoal J g tt te vs σ H1 D Qd := by
  refine lc_it w (fun i H => ∃ ys, Same H1 H ∧ H D = some (.lst ys) ∧ F2 (fun j y => R j y (del H D)) ((List.range i).filter p) ys)
    ⟨[], same_new hD, upd_same, .nil⟩ (fun i H _ ⟨_, s, _⟩ => hG H s) (fun i x H H' hi ⟨ys, s, e, f⟩ y => ?_) (fun H ⟨ys, s, e, f⟩ => hd H ys s e (f2_imp (fun a b k => hR _ _ _ _ del_same k) f))
  have hl : ys.length ≤ i := by
    rw [← f2_len f]
    exact Nat.le_trans (List.length_filter_le _ _) (by rw [List.length_range]; exact Nat.le_refl _)
  have up : ∀ {H4 : Hp}, Same H H4 → Same (del H D) (del H4 D) := fun s4 => same_del (del_same.trans s4) del_at
  have un : ∀ {H4 : Hp} {o : HO}, del (upd H4 D o) D = del H4 D := fun {H4 o} => by
    funext b
    by_cases h : b = D
    · rw [h, del_at, del_at]
    · rw [del_ne h, del_ne h, upd_ne h]
  refine hs i x H H' _ _ hi s (by rw [e]; exact fun z => nomatch z) y (fun hp v H4 s4 r => ⟨ys, s4 _ _ e, ?_, ys ++ [v], same_at (s.trans s4) hD, upd_same, ?_⟩) (fun hp H3 s3 => ⟨ys, s.trans s3, s3 _ _ e, ?_⟩)
  · exact Nat.lt_of_le_of_lt hl (Nat.lt_of_lt_of_le hi (line100 hn))
  · rw [List.range_succ, List.filter_append, un]
    have e1 : [i].filter p = [i] := by simp [hp]
    rw [e1]
    exact f2_snoc (f2_imp (fun a b k => hR _ _ _ _ (up s4) k) f) r
  · rw [List.range_succ, List.filter_append]
    have e1 : [i].filter p = [] := by simp [hp]
    rw [e1, List.append_nil]
    exact f2_imp (fun a b k => hR _ _ _ _ (up s3) k) f
/-- the items are values that stand in no heap, or stood before -/
theorem lcS (w : Walk J n G Y) (p : Nat → Bool) (f : Nat → V) (hn : n ≤ 100000) (hD : H1 D = none) (hG : ∀ H, Same H1 H → G H)
    (hs : ∀ i x H H' (Nx : VK) (Nf : Hp → Prop), i < n → Same H1 H → Y i H x H' → (p i = true → ∀ H4, Same H H4 → Nx (f i) H4) → (p i = false → ∀ H3, Same H H3 → Nf H3) →
      g x (wipe σ vs) H' fun σ2 H2 => wipe σ2 vs = wipe σ vs ∧ tt σ2 H2 fun b H3 => if b = true then te σ2 H3 Nx else Nf H3)
    (hd : ∀ H, Same H1 H → H D = some (.lst (((List.range n).filter p).map f)) → Qd H) : LcGoal J g tt te vs σ H1 D Qd :=
  lcR w p (fun i y _ => y = f i) (fun _ _ _ _ _ z => z) hn hD hG (fun i x H H' Nx Nf hi s _ y k1 k2 => hs i x H H' Nx Nf hi s y (fun hp H4 s4 => k1 hp _ H4 s4 rfl) k2) fun H ys s e f2 => hd H s (by rw [e, f2_map f2])
/-- without an if -/
theorem lcM (w : Walk J n G Y) (f : Nat → V) (hn : n ≤ 100000) (hD : H1 D = none) (hG : ∀ H, Same H1 H → G H)
    (hs : ∀ i x H H' (Nx : VK), i < n → Same H1 H → Y i H x H' → (∀ H4, Same H H4 → Nx (f i) H4) →
      g x (wipe σ vs) H' fun σ2 H2 => wipe σ2 vs = wipe σ vs ∧ te σ2 H2 Nx)
    (hd : ∀ H, Same H1 H → H D = some (.lst ((List.range n).map f)) → Qd H) : LcGoal J g tYes te vs σ H1 D Qd :=
  lcS w (fun _ => true) f hn hD hG (fun i x H H' Nx Nf hi s y k1 k2 => hs i x H H' Nx hi s y (k1 rfl)) fun H s e => hd H s (by rw [e, List.filter_eq_self.mpr fun _ _ => rfl])
end
end Nb
namespace Nb
open PySem
open L2 hiding del del_ne del_same
section
variable {J : It} {n : Nat} {G : Hp → Prop} {Y : Nat → Hp → V → Hp → Prop} {g : TG} {tt : TT} {tk tv : TE} {vs : List Nat} {σ : L2.St} {H1 : Hp} {D : Addr} {Qd : Hp → Prop}
/-- a dict comprehension without an if, whose keys are all different -/
theorem dcM (w : Walk J n G Y) (key : Nat → Key) (val : Nat → V) (diff : ∀ i j, i < j → j < n → key i ≠ key j) (hn : n ≤ 100000) (hD : H1 D = none) (hG : ∀ H, Same H1 H → G H)
    (hs : ∀ i x H H' (N : V → V → Hp → Prop), i < n → Same H1 H → Y i H x H' → (∀ H5, Same H H5 → N (kV (key i)) (val i) H5) → g x (wipe σ vs) H' fun σ2 H2 => wipe σ2 vs = wipe σ vs ∧ tk σ2 H2 fun y H4 => tv σ2 H4 fun z H5 => N y z H5)
    (hd : ∀ H, Same H1 H → H D = some (.dK ((List.range n).map fun i => (key i, val i))) → Qd H) :
    ∃ W : Nat → Nat → Hp → Prop, (∃ m, W 0 m (upd H1 D (.dK []))) ∧ ∀ i m H, W i m H →
      (J.stop i H ∧ Qd H) ∨ (J.go i H ∧ ∃ Nx : Hp → Prop, (∀ H', Nx H' → ∃ m', m' < m ∧ W (i + 1) m' H') ∧ ∀ x H', J.yld i H x H' → g x (wipe σ vs) H' fun σ2 H2 => wipe σ2 vs = wipe σ vs ∧ tYes σ2 H2 fun b H3 =>
        if b = true then tk σ2 H3 fun y H4 => tv σ2 H4 fun z H5 => ∃ kvs k, y = kV k ∧ H5 D = some (.dK kvs) ∧ kvs.length < sizeLine ∧ Nx (upd H5 D (.dK (putK kvs k z))) else Nx H3) := by
  have inv : ∀ i H, (Same H1 H ∧ H D = some (.dK ((List.range i).map fun i => (key i, val i)))) → Same H1 H := fun _ _ h => h.1
  refine ⟨fun i m H => m + i = n ∧ Same H1 H ∧ H D = some (.dK ((List.range i).map fun i => (key i, val i))), ⟨n, rfl, same_new hD, upd_same⟩, fun i m H ⟨em, s, e⟩ => ?_⟩
  by_cases hlt : i < n
  · refine .inr ⟨w.goes i H hlt (hG H s), fun H' => Same H1 H' ∧ H' D = some (.dK ((List.range (i + 1)).map fun i => (key i, val i))), fun H' p' => ⟨m - 1, by omega, by omega, p'⟩, fun x H' y => ?_⟩
    have z := hs i x H H' (fun y z H5 => ∃ kvs k, y = kV k ∧ H5 D = some (.dK kvs) ∧ kvs.length < sizeLine ∧ Same H1 (upd H5 D (.dK (putK kvs k z))) ∧ (upd H5 D (.dK (putK kvs k z))) D = some (.dK ((List.range (i + 1)).map fun i => (key i, val i)))) hlt s (w.yields i H x H' hlt (hG H s) y)
      (fun H5 s5 => ⟨_, key i, rfl, s5 _ _ e, ?_, same_at (s.trans s5) hD, ?_⟩)
    · exact z
    · rw [List.length_map, List.length_range]
      exact Nat.lt_of_lt_of_le hlt (line100 hn)
    · rw [upd_same]
      have v : valV ((List.range i).map fun i => (key i, val i)) (key i) = none := by
        unfold valV
        rw [Option.map_eq_none_iff, List.find?_eq_none]
        intro p hp
        obtain ⟨j, hj, rfl⟩ := List.mem_map.mp hp
        have := diff j i (List.mem_range.mp hj) hlt
        simpa using this
      rw [putK_new _ v, List.range_succ, List.map_append]
      rfl
  · have e2 : i = n := by omega
    subst e2
    exact .inl ⟨w.stops H (hG H s), hd H s e⟩
end
theorem range_getD {α : Type} (d : α) : ∀ ps : List α, (List.range ps.length).map (fun i => ps.getD i d) = ps := fun ps => by
  apply List.ext_getElem?
  intro i
  rw [List.getElem?_map]
  by_cases h : i < ps.length
  · rw [List.getElem?_range h]
    simp [h]
  · rw [List.getElem?_eq_none_iff.mpr (by rw [List.length_range]; omega), List.getElem?_eq_none_iff.mpr (by omega)]
    rfl
theorem filter_range {α : Type} (d : α) (q : α → Bool) (ps : List α) : ((List.range ps.length).filter fun i => q (ps.getD i d)).length = (ps.filter q).length := by
  conv => rhs; rw [← range_getD d ps]
  rw [List.filter_map, List.length_map]
  rfl
def tUp (t : TT) : TT := fun σ H Q => ∃ R : Bool → Hp → Prop, t σ H R ∧ ∀ b H, R b H → Q b H
theorem pt_up {X : Cx} {e : Expr} {t : TT} (h : PT X e t) : PT X e (tUp t) := ⟨fun pins s σ H _ I ⟨R, r, k⟩ => thn (h.run pins s σ H R I r) fun b s1 ⟨H1, I1, q⟩ => ⟨H1, I1, k b H1 q⟩⟩
theorem tUp_mono {t : TT} : ∀ σ H Q Q', (∀ b H1, Q b H1 → Q' b H1) → tUp t σ H Q → tUp t σ H Q' := fun _ _ _ _ k ⟨R, r, z⟩ => ⟨R, r, fun b H q => k b H (z b H q)⟩
end Nb

set_option Elab.async false
set_option maxRecDepth 100000
/-! How many different texts a tuple holds: the value of len(set(t)). -/
namespace Nb
open PySem PySem.Spec PyProof.Rows L2
/-- the different texts of a list, each where it is met first -/
def dis : List Str → List Str
  | [] => []
  | x :: r => x :: (dis r).filter (fun y => !(y == x))
/-- seen so far: one text more -/
def grow (l : List Str) (x : Str) : List Str := if l.any (· == x) then l else l ++ [x]
def seen (xs : List Str) : List Str := xs.foldl grow []
theorem seen_snoc (xs : List Str) (x : Str) : seen (xs ++ [x]) = grow (seen xs) x := by
  unfold seen
  rw [List.foldl_append]
  rfl
theorem grow_any (l : List Str) (x k : Str) : (grow l x).any (· == k) = (l.any (· == k) || decide (k = x)) := by
  unfold grow
  by_cases h : l.any (· == x) = true
  · rw [if_pos h]
    by_cases e : k = x
    · subst e
      rw [h]
      rfl
    · simp [e]
  · rw [if_neg h, List.any_append]
    by_cases e : k = x
    · subst e
      simp
    · have e2 : (x == k) = false := beq_eq_false_iff_ne.mpr fun z => e z.symm
      simp [e, e2]
theorem grow_len (l : List Str) (x : Str) : (grow l x).length = if l.any (· == x) = true then l.length else l.length + 1 := by
  unfold grow
  split <;> simp
theorem grow_le (l : List Str) (x : Str) : (grow l x).length ≤ l.length + 1 := by
  rw [grow_len]
  split <;> omega
theorem seen_le : ∀ xs : List Str, (seen xs).length ≤ xs.length := by
  have key : ∀ (xs l : List Str), (xs.foldl grow l).length ≤ l.length + xs.length := by
    intro xs
    induction xs with
    | nil => intro l; exact Nat.le_refl _
    | cons x r ih =>
      intro l
      have h1 := ih (grow l x)
      have h2 := grow_le l x
      show (r.foldl grow (grow l x)).length ≤ l.length + (r.length + 1)
      omega
  intro xs
  have h := key xs []
  simpa [seen] using h

section
variable {P : Program} {w : World} {A : Around} {E : Value → Shared → Prop} {s : Shared}
abbrev SetS (P : Program) (w : World) (h : Heap) (S : Addr) (l : List Str) : Prop := h.SetOf (PySem.strKind P w) S (fun k => l.any (· == k)) l.length
theorem SetS.to {h h' : Heap} {S : Addr} {l : List Str} (x : SetS P w h S l) (k : ∀ o, h.get? S = some o → h'.get? S = some o) : SetS P w h' S l :=
  let ⟨o, es, ep, t, ho, r⟩ := x
  ⟨o, es, ep, t, k o ho, r⟩
/-- the set takes what is walked, text by text -/
theorem takes_texts {I : Addr} {fp wr : List Addr} {G : Array GenState → Array GenState → Prop} {n : Nat} {Pv : Nat → Value → Prop} {St : Nat → Shared → Prop} {R : Result → Shared → Prop}
    (W : WalksS P w A.in1 I fp wr G n Pv St) (S : Addr) (apart : S ∉ fp) (xs : List Str) (size : n = xs.length) (few : xs.length + 1 < scanBound) (val : ∀ i v, Pv i v → ∃ x t, xs[i]? = some x ∧ v = .str x t) :
    ∀ (m i : Nat) (s : Shared), m + i = n → St i s → SetS P w s.heap S (seen (xs.take i)) →
      (∀ s', Moved (S :: wr) G s s' → SetS P w s'.heap S (seen xs) → R (.ok (.ret .none)) s') → codeAny (model P w) A (.builtin "set.update.loop" ⟨[.ref S, .ref I], []⟩) R s := by
  have out : S ∉ wr := fun z => apart (W.sub _ z)
  have wide : ∀ b ∈ wr, b ∈ S :: wr := fun b z => List.mem_cons_of_mem _ z
  intro m
  induction m with
  | zero =>
    intro i s em here held fin
    refine codeAny_builtin F.entry_set_update_loop (by
      rw [Around.under_plainId F.plain_set_update_loop _]
      refine wpAny_bind (m := pyNext (.ref I)) (W.done s _ _ (by rw [← em, Nat.zero_add]; exact here) fun s' mv => ?_)
      refine wpAny_pure (fin s' (mv.mono wide) ?_)
      have all : xs.take i = xs := List.take_of_length_le (by omega)
      rw [all] at held
      exact held.to fun o e => mv.heap S o out e)
  | succ m ih =>
    intro i s em here held fin
    refine codeAny_builtin F.entry_set_update_loop (by
      rw [Around.under_plainId F.plain_set_update_loop _]
      refine wpAny_bind (m := pyNext (.ref I)) (W.item i s _ _ (by omega) here fun v s' hv here' mv => ?_)
      obtain ⟨x, t, ex, rfl⟩ := val i v hv
      have held' : SetS P w s'.heap S (seen (xs.take i)) := held.to fun o e => mv.heap S o out e
      refine wpAny_bind (m := holding [Value.str x t] (setAdd S (.str x t))) (wpAny_holding ?_)
      unfold setAdd
      refine wpAny_holding (wpAny_bind ((PySem.strKind P w).pyHash (k := x) (strKind_is _ _ _ _) ?_))
      have room : (seen (xs.take i)).length + 1 < scanBound := by
        have h1 := seen_le (xs.take i)
        have h2 : (xs.take i).length ≤ xs.length := by rw [List.length_take]; omega
        omega
      refine wpAny_setAddHashed_of (knd := PySem.strKind P w) (s := { s' with toks := s'.toks + 1 }) (strKind_is _ _ _ _) rfl held' room fun h' only more => ?_
      have step : seen (xs.take (i + 1)) = grow (seen (xs.take i)) x := by
        rw [List.take_add_one, ex]
        exact seen_snoc _ _
      have held2 : SetS P w h' S (seen (xs.take (i + 1))) := by
        rw [step]
        exact SetOf_congr more (fun k => (grow_any _ _ _).symm) (grow_len _ _).symm
      have still : ∀ b, b ≠ S → ∀ o, s'.heap.get? b = some o → h'.get? b = some o := fun b nb o e => by
        rw [only.2 b nb]
        exact e
      exact wpAny_pure ⟨plainId_quiet F.plain_set_update_loop _, ih (i + 1) _ (by omega) (W.frame _ s' _ _ here' (Nat.le_succ _) fun b hb o e => still b (fun z => apart (z ▸ hb)) o e) held2 fun s2 mv2 held3 =>
        fin s2 (Moved.trans W.gtrans ((mv.mono wide).then_heap (Nat.le_succ _) fun b o hb e => still b (fun z => hb (z ▸ List.mem_cons_self)) o e) mv2) held3⟩)
/-- an empty set as it is laid -/
abbrev bareSet (led : Bool) : Obj := { cls := .type "set", dict := none, data := .set #[] 0 (.fresh 0 0 led) }
set_option maxHeartbeats 3200000 in
/-- set(t), t a tuple of texts -/
theorem set_of_texts {l : Addr} {items : Array Value} {xs : List Str} {Q : Value → Shared → Prop} (calm : A.handled = none) (tup : s.heap.IsTuple l items) (txt : StrsAre items.toList xs) (few : xs.length + 1 < scanBound)
    (h : ∀ (h' : Heap) (tk : Nat), SetS P w h' s.heap.objs.size (seen xs) → (∀ b o, s.heap.get? b = some o → h'.get? b = some o) → Q (.ref s.heap.objs.size) { s with heap := h', toks := tk }) :
    wpAny (model P w) A (call (.type "set") [.ref l]) Q E s := by
  have size : items.size = xs.length := by
    have q := StrsAre.len_eq txt
    rw [Array.length_toList] at q
    exact q
  obtain ⟨c, tl, hmro⟩ := F.called_set.mro
  have g1 := F.called_set.made
  have g2 := F.called_set.sub
  have g3 := F.called_set.notType
  have g4 := F.called_set.canCreate
  have g5 := F.typeCall_set_1 (.ref l)
  refine wpAny_call (codeAny_of_tree (show wpAny _ _ (callAny (.type "set") _) _ _ _ from wpAny_pure ⟨Code.quiet_builtin _ (by decide +kernel), codeAny_builtin F.entry_type_call ?_⟩))
  rw [Around.under_plain (weight_type_call_type "set" [.ref l] []) rfl]
  repeat (any_goals (first | assumption | wp_step))
  refine codeAny_mono (code_set_new_1 (.ref l) (E := E) (Q₁ := fun obj s₁ => ∃ led : Bool, obj = .ref s.heap.objs.size ∧ s₁ = { s with heap := s.heap.push (bareSet led) }) fun led => ⟨led, rfl, rfl⟩) fun r s₁ hr => ?_
  rcases r with e | fl
  · exact hr
  cases fl with
  | ret obj =>
    obtain ⟨led, rfl, rfl⟩ := hr
    have at0 : (s.heap.push (bareSet led)).get? s.heap.objs.size = some (bareSet led) := Heap.get?_push_size _ rfl
    have ty0 : Shared.TypeIs { s with heap := s.heap.push (bareSet led) } (.ref s.heap.objs.size) "set" := ⟨_, at0, rfl⟩
    have g6 := F.called_set.init.lookup
    have g7 := F.called_set.init.bind (.ref s.heap.objs.size)
    repeat (any_goals (first | assumption | wp_step))
    refine codeAny_mono (codeAny_call_builtin (R := wants (fun r s₂ => r = .none ∧ ∃ h' tk, s₂ = { s with heap := h', toks := tk } ∧ SetS P w h' s.heap.objs.size (seen xs) ∧ (∀ b o, s.heap.get? b = some o → h'.get? b = some o)) E)
      F.called_set.init.plain F.entry_set_init (check_set_init_1 ty0 ?_)) fun r₂ s₂ hr₂ => ?_
    · obtain ⟨⟨ocls, odict, odata, oslots⟩, ho, hc, nl, hd⟩ := tup
      simp only at hc hd
      subst hc hd
      have ho1 : (s.heap.push (bareSet led)).get? l = some { cls := .type "tuple", dict := odict, data := .seq items nl, slots := oslots } := Heap.get?_push_of_some _ ho
      have g8 := F.sub_tuple_set
      have g9 := F.sub_tuple_frozenset
      have g10 : (Value.type "tuple" == Value.type "dict") = false := by decide
      have tup1 : (s.heap.push (bareSet led)).IsTuple l items := ⟨_, ho1, rfl, nl, rfl⟩
      unfold Builtin.«set.__init__» noKeywords Builtin.Frozenset.updateFrom
      generalize hPI : pyIter = PI
      wp_walk
      subst hPI
      refine wpAny_pyIter_tuple tup1 (wpAny_bind (wpAny_runValue ?_))
      have lt0 : l < s.heap.objs.size := Heap.lt_size ho
      have sz1 : (s.heap.push (bareSet led)).objs.size = s.heap.objs.size + 1 := Heap.size_push ..
      have calm3 : A.in1.in1.in1.handled = none := by simp [calm]
      have ne1 : l ≠ (s.heap.push (bareSet led)).objs.size := by
        rw [sz1]
        exact Nat.ne_of_lt (Nat.lt_succ_of_lt lt0)
      have apart : s.heap.objs.size ∉ [(s.heap.push (bareSet led)).objs.size, l] := fun z => by
        rcases List.mem_cons.mp z with z | z
        · rw [sz1] at z
          exact absurd z (Nat.ne_of_lt (Nat.lt_succ_self _))
        · exact absurd (List.mem_singleton.mp z) (Nat.ne_of_gt lt0)
      refine takes_texts ((Walks.tuple calm3 _ l ne1 items).toS) s.heap.objs.size apart xs size few (fun i v hv => ?_) items.size 0 _ (by omega) ⟨⟨_, Heap.get?_push_size _ rfl, rfl, rfl⟩, (tup1.push _)⟩ ?start fun s' mv held => ?_
      case start =>
        have at1 : ((s.heap.push (bareSet led)).push { cls := .type "tuple_iterator", data := .fields #[.ref l, .int 0 0] }).get? s.heap.objs.size = some (bareSet led) := Heap.get?_push_of_some _ at0
        exact SetOf_congr ((setObjOf_fresh (knd := PySem.strKind P w) led).setOf at1 (by unfold scanBound; omega)) (fun _ => rfl) rfl
      · have hi : i < xs.length := by
          rw [← size]
          exact (Array.getElem?_eq_some_iff.mp hv).1
        obtain ⟨t, e⟩ := SS.strs_at txt i v (by rw [Array.getElem?_toList]; exact hv)
        refine ⟨xs[i], t, List.getElem?_eq_getElem hi, ?_⟩
        rw [e, List.getD_eq_getElem?_getD, List.getElem?_eq_getElem hi]
        rfl
      · obtain ⟨h', gn, dr, tk, os'⟩ := s'
        have eg : gn = s.gens := mv.gens
        have ed : dr = s.drawn := mv.drawn
        have eo : os' = s.os := mv.os
        subst eg ed eo
        refine wpAny_pure ?_
        show wpAny _ _ (ret Value.none) _ _ _
        refine wpAny_pure ⟨rfl, h', tk, rfl, held, fun b o e => ?_⟩
        have lt1 : b < s.heap.objs.size := Heap.lt_size e
        refine mv.heap b o (fun z => ?_) (Heap.get?_push_of_some _ (Heap.get?_push_of_some _ e))
        rcases List.mem_cons.mp z with z | z
        · exact absurd z (Nat.ne_of_lt lt1)
        · rw [List.mem_singleton.mp z, sz1] at lt1
          exact absurd (Nat.lt_trans lt1 (Nat.lt_succ_self _)) (by
            intro q
            have := Nat.lt_of_lt_of_le lt1 (Nat.le_refl _)
            omega)
    · rcases r₂ with e | fl₂
      · exact hr₂
      cases fl₂ with
      | ret r =>
        obtain ⟨rfl, h', tk, rfl, held, kept⟩ := hr₂
        repeat (any_goals (first | assumption | wp_step))
        exact h _ _ held kept
      | _ => exact hr₂.elim
  | _ => exact hr.elim
end
section
variable {X : Cx}
theorem texts_of : ∀ {xs : List Str} {us : List Value}, Vals (xs.map V.str) us → StrsAre us xs
  | [], _, .nil => .nil
  | x :: xs, _, .cons r t => by
    obtain ⟨k, rfl⟩ := r
    exact .cons x k (texts_of t)
/-- len(set(t)), t a tuple of texts -/
def tManyS (K : PySem.W.Frag) (ta : TE) : TE := fun σ H Q => ta σ H fun x H1 => ∃ (l : Addr) (xs : List Str), x = .ref l ∧ SqT K H1 l (xs.map V.str) ∧ xs.length ≤ 4000 ∧ Q (.int ((seen xs).length : Nat)) H1
theorem pe_manyS {a : Expr} {ta : TE} {p p2 q pos : Pos} (hg : Gl X "len") (hm : X.mg "len" = none) (hg2 : Gl X "set") (hm2 : X.mg "set" = none) (ha : PE X a ta) (hc : X.calm = true := by rfl)
    (na : starEach [a] X.env = (false, eval a X.env) :: starEach [] X.env := by rfl) : PE X (.Call (.Name "len" p) [.Call (.Name "set" p2) [a] [] q] [] pos) (tManyS X.K ta) := by
  refine ⟨fun pins s σ H Q I h => Call_ (ld_blt I hg hm boot_len (callWith_builtin1 (args_cons (Call_ (ld_blt I hg2 hm2 boot_set ?_)) rfl) rfl rfl))⟩
  refine callWith_type1 (args_cons (thn (ha.run pins s σ H _ I h) fun v s1 ⟨x, H1, I1, r1, q1⟩ => args_nil ?_) na) na rfl
  obtain ⟨l, xs, rfl, hq, hl, q1⟩ := q1
  cases r1
  obtain ⟨its, r, pl, hz⟩ := I1.tuple hq
  have few := seen_le xs
  refine set_of_texts (I1.ok.hd hc) pl (by simpa using texts_of r) (by unfold scanBound; omega) fun h' tk held kept => args_nil ?_
  obtain ⟨o, es, ep, t, ho, hex, hd, _, _, _, hf, hn⟩ := held
  exact call_len_set ho hex hd hf (by rw [hn]; omega) ⟨.int (seen xs).length, H1, (I1.kept kept).tok _, ⟨_, by rw [hn]⟩, q1⟩
end
end Nb

set_option Elab.async false
set_option maxRecDepth 100000
set_option maxHeartbeats 4000000
/-! Names and rows of names, as values. -/
namespace Nb
open PySem L2
def lowA : List Nat := ("a" : Str).cps.toList
def lowZ : List Nat := ("z" : Str).cps.toList
def letterOk (c : Nat) : Bool := !decide ([c] < lowA) && !decide (lowZ < [c])
def isNm (z : Str) : Bool := decide (1 ≤ (z.length : Int)) && decide ((z.length : Int) ≤ 8) && z.cps.toList.all letterOk
def nameV : V → Bool
  | .str z => isNm z
  | _ => false
/-- what is known of a value that may be a name -/
def Known (K : PySem.W.Frag) (H : Hp) (x : V) : Prop := (∃ z, x = .str z ∧ z.length ≤ 1000 ∧ PyData.strOk z = true) ∨ (∀ z, x ≠ .str z) ∧ ∃ T, TyX K H x (.type T) ∧ kitB T "str" = some false
def Item (K : PySem.W.Frag) (H : Hp) (x : V) : Prop := Known K H x ∧ ∃ d, Dp K H x d ∧ Fine 8 d
def tupOf (H : Hp) : V → Option (List V)
  | .ref a => match H a with
    | some (.tup xs) => some xs
    | some (.frz _ (.tup xs)) => some xs
    | _ => none
  | _ => none
def Thing (K : PySem.W.Frag) (H : Hp) (x : V) : Prop :=
  (∃ a xs, x = .ref a ∧ Rd H a (.tup xs) ∧ xs.length ≤ 1000 ∧ ∀ y ∈ xs, Item K H y) ∨ (∀ H', Same H H' → tupOf H' x = none) ∧ ∃ T, TyX K H x (.type T) ∧ kitB T "tuple" = some false
def strsOf (xs : List V) : List Str := xs.filterMap fun | .str z => some z | _ => none
def diffV (xs : List V) : Bool := xs.all nameV && decide (((seen (strsOf xs)).length : Int) = xs.length)
def namesV (H : Hp) (x : V) : Bool := match tupOf H x with
  | some xs => xs.all nameV
  | none => false
def diffOf (H : Hp) (x : V) : Bool := match tupOf H x with
  | some xs => diffV xs
  | none => false
def rowV (H : Hp) (x : V) : Bool := match tupOf H x with
  | some xs => diffV xs && decide ((xs.length : Int) ≤ 4)
  | none => false
theorem tupOf_at {H : Hp} {a : Addr} {xs : List V} (h : Rd H a (.tup xs)) : tupOf H (.ref a) = some xs := by
  show (match H a with | some (.tup xs) => some xs | some (.frz _ (.tup xs)) => some xs | _ => none) = some xs
  rcases h with h | ⟨o, h⟩
  · rw [h]
  · rw [h]
theorem rd_same {H H' : Hp} (s : Same H H') {a : Addr} {u : HO} (h : Rd H a u) : Rd H' a u := by
  rcases h with h | ⟨o, h⟩
  · exact .inl (s _ _ h)
  · exact .inr ⟨o, s _ _ h⟩
theorem rd_ty {K : PySem.W.Frag} {H : Hp} {a : Addr} {xs : List V} (h : Rd H a (.tup xs)) : TyX K H (.ref a) (.type "tuple") := by
  rcases h with h | ⟨o, h⟩
  · exact .base (.tup h)
  · exact .fTuple h
theorem strs_map : ∀ {xs : List V}, xs.all nameV = true → xs = (strsOf xs).map V.str
  | [], _ => rfl
  | x :: xs, h => by
    rw [List.all_cons, Bool.and_eq_true] at h
    have ih := strs_map h.2
    cases x with
    | str z =>
      show V.str z :: xs = V.str z :: (strsOf xs).map V.str
      rw [← ih]
    | _ => exact absurd h.1 (by simp [nameV])
theorem tyx_same {K : PySem.W.Frag} {H H' : Hp} (s : Same H H') {x : V} {t : Value} (h : TyX K H x t) : TyX K H' x t := by
  cases h with
  | base b =>
    refine .base ?_
    cases b with
    | non => exact .non
    | bl x => exact .bl x
    | int i => exact .int i
    | str x => exact .str x
    | flt x => exact .flt x
    | lst e => exact .lst (s _ _ e)
    | frz e => exact .frz (s _ _ e)
    | tup e => exact .tup (s _ _ e)
    | dK e => exact .dK (s _ _ e)
    | dT e => exact .dT (s _ _ e)
    | ins e cl ha hn htk hm => exact .ins (s _ _ e) cl ha hn htk hm
  | byt b => exact .byt b
  | set e => exact .set (s _ _ e)
  | kList e c => exact .kList e c
  | kTuple e c => exact .kTuple e c
  | kDict e c => exact .kDict e c
  | fTuple e => exact .fTuple (s _ _ e)
  | fDict e => exact .fDict (s _ _ e)
theorem known_same {K : PySem.W.Frag} {H H' : Hp} (s : Same H H') {x : V} (h : Known K H x) : Known K H' x := by
  rcases h with h | ⟨h1, T, h2, h3⟩
  · exact .inl h
  · exact .inr ⟨h1, T, tyx_same s h2, h3⟩
theorem item_same {K : PySem.W.Frag} {H H' : Hp} (s : Same H H') {x : V} (h : Item K H x) : Item K H' x :=
  ⟨known_same s h.1, let ⟨d, h1, h2⟩ := h.2; ⟨d, dp_same s d x h1, h2⟩⟩
theorem thing_same {K : PySem.W.Frag} {H H' : Hp} (s : Same H H') {x : V} (h : Thing K H x) : Thing K H' x := by
  rcases h with ⟨a, xs, h1, h2, h3, h4⟩ | ⟨h1, T, h2, h3⟩
  · exact .inl ⟨a, xs, h1, rd_same s h2, h3, fun y hy => item_same s (h4 y hy)⟩
  · exact .inr ⟨fun H2 s2 => h1 H2 (s.trans s2), T, tyx_same s h2, h3⟩
theorem thing_tup {K : PySem.W.Frag} {H H' : Hp} (s : Same H H') {x : V} (h : Thing K H x) : tupOf H' x = tupOf H x := by
  rcases h with ⟨a, xs, rfl, h2, h3, h4⟩ | ⟨h1, _⟩
  · rw [tupOf_at h2, tupOf_at (rd_same s h2)]
  · rw [h1 _ s, h1 _ (Same.refl H)]
theorem thing_row {K : PySem.W.Frag} {H H' : Hp} (s : Same H H') {x : V} (h : Thing K H x) : rowV H' x = rowV H x := by
  unfold rowV
  rw [thing_tup s h]
/-- a value that is no object -/
theorem thing_flat {K : PySem.W.Frag} {H : Hp} {x : V} (h : ∀ a, x ≠ .ref a) {T : String} (t : TyX K H x (.type T)) (k : kitB T "tuple" = some false) : Thing K H x := by
  refine .inr ⟨fun H' _ => ?_, T, t, k⟩
  cases x with
  | ref a => exact absurd rfl (h a)
  | _ => rfl
theorem thing_str {K : PySem.W.Frag} {H : Hp} (z : Str) : Thing K H (.str z) := thing_flat (fun a => by intro e; cases e) (.base (.str z)) (by decide +kernel)
theorem thing_lst {K : PySem.W.Frag} {H : Hp} {a : Addr} {xs : List V} (h : H a = some (.lst xs)) : Thing K H (.ref a) := by
  refine .inr ⟨fun H' s => ?_, "list", .base (.lst h), by decide +kernel⟩
  show (match H' a with | some (.tup xs) => some xs | some (.frz _ (.tup xs)) => some xs | _ => none) = none
  rw [s _ _ h]
theorem thing_dct {K : PySem.W.Frag} {H : Hp} {a : Addr} {xs : List (Key × V)} (h : H a = some (.dK xs)) : Thing K H (.ref a) := by
  refine .inr ⟨fun H' s => ?_, "dict", .base (.dK h), by decide +kernel⟩
  show (match H' a with | some (.tup xs) => some xs | some (.frz _ (.tup xs)) => some xs | _ => none) = none
  rw [s _ _ h]
theorem known_str {K : PySem.W.Frag} {H : Hp} {z : Str} (h : z.length ≤ 1000) (o : PyData.strOk z = true) : Known K H (.str z) := .inl ⟨z, rfl, h, o⟩
theorem known_non {K : PySem.W.Frag} {H : Hp} : Known K H .non := .inr ⟨(fun z e => by cases e), "NoneType", .base .non, by decide +kernel⟩
theorem known_int {K : PySem.W.Frag} {H : Hp} (i : Int) : Known K H (.int i) := .inr ⟨(fun z e => by cases e), "int", .base (.int i), by decide +kernel⟩
theorem known_bl {K : PySem.W.Frag} {H : Hp} (b : Bool) : Known K H (.bl b) := .inr ⟨(fun z e => by cases e), "bool", .base (.bl b), by decide +kernel⟩
theorem known_tup {K : PySem.W.Frag} {H : Hp} {a : Addr} {xs : List V} (h : H a = some (.tup xs)) : Known K H (.ref a) := .inr ⟨(fun z e => by cases e), "tuple", .base (.tup h), by decide +kernel⟩
theorem known_lst {K : PySem.W.Frag} {H : Hp} {a : Addr} {xs : List V} (h : H a = some (.lst xs)) : Known K H (.ref a) := .inr ⟨(fun z e => by cases e), "list", .base (.lst h), by decide +kernel⟩
theorem known_dct {K : PySem.W.Frag} {H : Hp} {a : Addr} {xs : List (Key × V)} (h : H a = some (.dK xs)) : Known K H (.ref a) := .inr ⟨(fun z e => by cases e), "dict", .base (.dK h), by decide +kernel⟩
theorem item_str {K : PySem.W.Frag} {H : Hp} {z : Str} (h : z.length ≤ 1000) (o : PyData.strOk z = true) : Item K H (.str z) := ⟨known_str h o, .str z, .str z, (fine_str o).mono (by decide)⟩
theorem item_non {K : PySem.W.Frag} {H : Hp} : Item K H .non := ⟨known_non, .none, .non, fine_non.mono (by decide)⟩
/-- a text that is short, its signs signs -/
def Word (z : Str) : Prop := z.length ≤ 1000 ∧ PyData.strOk z = true
theorem Word.item {K : PySem.W.Frag} {H : Hp} {z : Str} (h : Word z) : Item K H (.str z) := item_str h.1 h.2
theorem strOk_append {x y : Str} (h : PyData.strOk x = true) (k : PyData.strOk y = true) : PyData.strOk (x ++ y) = true := by
  unfold PyData.strOk at *
  rw [Array.all_eq_true_iff_forall_mem] at *
  intro c hc
  have hc2 : c ∈ x.cps ++ y.cps := hc
  rcases Array.mem_append.mp hc2 with z | z
  · exact h c z
  · exact k c z
theorem strOk_cut {x : Str} (h : PyData.strOk x = true) (lo hi : Option Int) : PyData.strOk (cutS x lo hi) = true := by
  unfold PyData.strOk at *
  rw [Array.all_eq_true_iff_forall_mem] at *
  intro c hc
  have hc2 : c ∈ ((x.cps.toList.drop (HT.sIx x.length 0 lo)).take (HT.sIx x.length x.length hi - HT.sIx x.length 0 lo)) := by
    have : c ∈ (cutS x lo hi).cps.toList := by simpa using hc
    simpa [cutS] using this
  have h3 : c ∈ x.cps.toList := List.mem_of_mem_drop (List.mem_of_mem_take hc2)
  exact h c (by simpa using h3)
/-- repr(b), b a bool -/
theorem cr_reprB {X : Cx} : CallR X (.builtin "repr") (fun xs H Q => ∃ b : Bool, xs = [.bl b] ∧ Q (.str (if b then "True" else "False")) H) := by
  intro pins s σ H xs us Q I r h
  obtain ⟨b, rfl, q⟩ := h
  obtain ⟨u, rfl, ru⟩ := vals1 r
  cases (show u = Value.bool b from ru)
  refine PySem.P.repr_of_bool ⟨.str _, H, I.tok _, ⟨_, rfl⟩, ?_⟩
  exact q
/-- a comprehension over a text, its elements read off the signs -/
theorem lc_str {x : Str} {g : TG} {tt : TT} {te : TE} {vs : List Nat} {σ : St} {H1 : Hp} {D : Addr} {Qd : Hp → Prop} (Pv : Nat → Hp → Prop) (h0 : Pv 0 (upd H1 D (.lst [])))
    (hs : ∀ i c H, x.cps.toList[i]? = some c → Pv i H → g (.str ⟨#[c]⟩) (wipe σ vs) H fun σ2 H2 => wipe σ2 vs = wipe σ vs ∧ tt σ2 H2 fun b H3 =>
      if b = true then te σ2 H3 fun y H4 => ∃ acc, H4 D = some (.lst acc) ∧ acc.length < sizeLine ∧ Pv (i + 1) (upd H4 D (.lst (acc ++ [y]))) else Pv (i + 1) H3) (hd : ∀ H, Pv x.cps.toList.length H → Qd H) :
    ∃ W : Nat → Nat → Hp → Prop, (∃ m, W 0 m (upd H1 D (.lst []))) ∧ ∀ i m H, W i m H →
      ((Its x).stop i H ∧ Qd H) ∨ ((Its x).go i H ∧ ∃ Nx : Hp → Prop, (∀ H', Nx H' → ∃ m', m' < m ∧ W (i + 1) m' H') ∧ ∀ y H', (Its x).yld i H y H' → g y (wipe σ vs) H' fun σ2 H2 => wipe σ2 vs = wipe σ vs ∧ tt σ2 H2 fun b H3 =>
        if b = true then te σ2 H3 fun y H4 => ∃ acc, H4 D = some (.lst acc) ∧ acc.length < sizeLine ∧ Nx (upd H4 D (.lst (acc ++ [y]))) else Nx H3) := by
  have sz : x.cps.toList.length = x.cps.size := Array.length_toList
  refine ⟨fun i m H => m + i = x.cps.size ∧ Pv i H, ⟨x.cps.size, by omega, h0⟩, fun i m H ⟨em, p⟩ => ?_⟩
  by_cases hlt : i < x.cps.size
  · refine .inr ⟨hlt, Pv (i + 1), fun H' p' => ⟨m - 1, by omega, by omega, p'⟩, fun y H' hy => ?_⟩
    obtain ⟨rfl, c, hc, rfl⟩ := hy
    exact hs i c _ (by rw [Array.getElem?_toList]; exact hc) p
  · have e : i = x.cps.toList.length := by omega
    subst e
    exact .inl ⟨by show x.cps.size ≤ _; omega, hd H p⟩
theorem all_filter {α : Type} (f : α → Bool) : ∀ xs : List α, (xs.filter fun x => !f x).isEmpty = xs.all f
  | [] => rfl
  | x :: xs => by
    rw [List.filter_cons, List.all_cons, ← all_filter f xs]
    cases f x <;> rfl
theorem dps {K : PySem.W.Frag} {H : Hp} : ∀ {xs : List V}, (∀ x ∈ xs, ∃ d, Dp K H x d ∧ Fine 8 d) → ∃ ds, DpAll K H xs ds ∧ (∀ d ∈ ds, Fine 8 d) ∧ ds.isEmpty = xs.isEmpty
  | [], _ => ⟨[], .nil, (fun _ h => by cases h), rfl⟩
  | x :: xs, h => by
    obtain ⟨d, h1, h2⟩ := h x (List.mem_cons_self ..)
    obtain ⟨ds, h3, h4, _⟩ := dps (xs := xs) fun y hy => h y (List.mem_cons_of_mem _ hy)
    exact ⟨d :: ds, .cons h1 h3, fun e he => by
      rcases List.mem_cons.mp he with rfl | he
      · exact h2
      · exact h4 e he, rfl⟩
/-- is_name's promise -/
def spName (K : PySem.W.Frag) : Sp := fun vs H Q _ => ∃ x, vs = [x] ∧ Known K H x ∧ ∀ H', Same H H' → Q (.bl (nameV x)) H'
def spOf (K : PySem.W.Frag) (f : Hp → V → Bool) : Sp := fun vs H Q _ => ∃ x, vs = [x] ∧ Thing K H x ∧ ∀ H', Same H H' → Q (.bl (f H x)) H'
/-- what is asked of the module's names -/
structure NamesTxt (mg : Str → Option Value) : Prop where
  len : mg "len" = none
  isi : mg "isinstance" = none
  str : mg "str" = none
  tup : mg "tuple" = none
  all : mg "all" = none
  set : mg "set" = none
end Nb

set_option Elab.async false
set_option maxRecDepth 100000
set_option maxHeartbeats 4000000
/-! enumerate(t), t a tuple. -/
namespace Nb
open PySem PySem.Spec PyProof.Rows L2
/-- the two cells of an enumerate over what begins -/
theorem enumerates {v : Value} {o : Obj} {G : Heap → Prop} (B : Begins v o G) :
    Meets (Builtin.«enumerate.__new__» ⟨[.type "enumerate", v], []⟩) (fun _ R s => G s.heap ∧
      R (.ok (.ret (.ref (s.heap.push o).objs.size))) { s with heap := (s.heap.push o).push { cls := .type "enumerate", data := .fields #[.none, .bool false, .ref s.heap.objs.size, rawInt 0, .none, .none] } }) :=
  .of_wp fun prog w A R s h => by
    obtain ⟨hp, g, d, tk, os⟩ := s
    obtain ⟨here, h⟩ := h
    have hsub := sub_enumerate
    have begin_ : ∀ {A' : Around} {E : Value → Shared → Prop} {Q : Value → Shared → Prop}, Q (.ref hp.objs.size) ⟨hp.push o, g, d, tk, os⟩ → wpAny (model prog w) A' (pyIter v) Q E ⟨hp, g, d, tk, os⟩ :=
      fun q => B.iter prog w _ _ ⟨hp, g, d, tk, os⟩ _ here q
    wp_walk using begin_
    refine wpAny_stack_any fun st => wpAny_pure ?_
    split
    case h_1 c _ _ _ _ _ =>
      cases (c == Value.type "enumerate") <;> (wp_walk using begin_; exact ⟨_, rfl, h⟩)
    case h_2 =>
      wp_walk using begin_
      exact ⟨_, rfl, h⟩
theorem enumerate_made {prog : Program} {w : World} {A : Around} {E : Value → Shared → Prop} {s : Shared} {v : Value} {o : Obj} {G : Heap → Prop} {Q : Value → Shared → Prop} (B : Begins v o G) (here : G s.heap)
    (h : ∀ h', IsEnum h' (s.heap.objs.size + 1) s.heap.objs.size 0 .none → h'.get? s.heap.objs.size = some o → (∀ b u, s.heap.get? b = some u → h'.get? b = some u) → Q (.ref (s.heap.objs.size + 1)) { s with heap := h' }) :
    wpAny (model prog w) A (call (.type "enumerate") [v]) Q E s := by
  refine callType_new F.called_enumerate (by decide) (F.typeCall_enumerate_1 _) (F.newCall_enumerate_1 _) (fun obj => F.args_object_init_2 obj _) F.entry_enumerate_new (enumerates B) ⟨here, ?_⟩
  have two : (s.heap.push o).objs.size = s.heap.objs.size + 1 := Heap.size_push ..
  show _ ∧ _
  rw [two]
  have made := Heap.get?_push_size (s.heap.push o) (o := { cls := .type "enumerate", data := .fields #[.none, .bool false, .ref s.heap.objs.size, rawInt 0, .none, .none] }) rfl
  rw [two] at made
  exact ⟨⟨_, made, rfl⟩, h _ made (Heap.get?_push_of_some _ (Heap.get?_push_size _ B.free)) fun b u x => Heap.get?_push_of_some _ (Heap.get?_push_of_some _ x)⟩
/-- the tuple at a, each item in a new pair with its index -/
def Itet (K : PySem.W.Frag) (a : Addr) : It :=
  ⟨fun i H => ∃ (xs : List V) (x : V), SqT K H a xs ∧ xs[i]? = some x, fun i H v H' => ∃ T x, v = .ref T ∧ H T = none ∧ H' = upd H T (.tup [.int (i : Nat), x]) ∧ ∀ xs, SqT K H a xs → xs[i]? = some x, fun i H => ∃ xs : List V, SqT K H a xs ∧ xs.length = i⟩
theorem turn_enumT {P : Program} {w : World} {K : PySem.W.Frag} {elts : List Expr} {kk : Nat} {tpos : Pos} (a e it : Addr) :
    Turn P w K (.Tuple elts kk tpos) (Itet K a) [e, it] e (fun i h => (∃ old, IsEnum h e it ((i : Nat) : Int) old) ∧ h.IsTupleIter it a i ∧ e ≠ it) where
  mem := by simp
  obj := fun i h st b hb => by
    obtain ⟨⟨old, he⟩, ⟨o, ho, _, hd⟩, _⟩ := st
    have z : b = e ∨ b = it := by simpa using hb
    rcases z with rfl | rfl
    · exact ⟨_, he, fun v q => nomatch q⟩
    · exact ⟨o, ho, fun v q => by rw [hd] at q; cases q⟩
  keep := fun i h h' ⟨⟨old, he⟩, hi, hne⟩ k => ⟨⟨old, k e (by simp) _ he⟩, hi.at fun o q => k it (by simp) o q, hne⟩
  item := by
    intro X hP hw hK hc i pins s σ H E I hf st hg
    subst hP hw hK
    obtain ⟨⟨old, he⟩, hit, hne⟩ := st
    obtain ⟨xs, x, hq, hx⟩ := hg
    obtain ⟨its, rv, tp, hz⟩ := I.tuple hq
    obtain ⟨u, hu, ru⟩ := rv.get hx
    have hel : e < s.heap.objs.size := Heap.lt_size he
    have hil : it < s.heap.objs.size := by
      obtain ⟨_, q, _⟩ := hit
      exact Heap.lt_size q
    have nta : a ≠ it := fun z => by
      obtain ⟨o1, e1, c1, _⟩ := hit
      obtain ⟨o2, e2, c2, _⟩ := tp
      rw [z, e1] at e2
      cases e2
      rw [c1] at c2
      injection c2 with c3
      exact absurd c3 (by decide)
    have nea : e ≠ a := fun z => by
      obtain ⟨o2, e2, c2, _⟩ := tp
      have e3 : s.heap.get? a = _ := z ▸ he
      rw [e3] at e2
      cases e2
      injection c2 with c3
      exact absurd c3 (by decide)
    have D := Draws.tuple (prog := X.prog) (w := X.w) (A := X.A.in1) (show X.A.in1.handled = none from I.ok.hd hc) it a nta its.toArray
    have sz : i < its.toArray.size := by
      have := (List.getElem?_eq_some_iff.mp hu).1
      simpa using this
    refine wpAny_pyNext_enum_itemD D he ⟨hit, tp⟩ sz hne (by simp [hne, nea]) fun y h' tk py ho st' hT hsz hk => ?_
    have ey : y = u := by
      have p2 : its.toArray[i]? = some u := by simpa using hu
      exact Option.some.inj (py.symm.trans p2)
    subst ey
    refine ⟨_, rfl, wpAny_letOwnedTupleGo_enum (s := { s with heap := h', toks := tk + 1 }) ho fun h'' he' sb => ?_⟩
    have hT2 : h''.get? s.heap.objs.size = some { cls := .type "tuple", data := .seq #[.int i tk, y] } := (sb.2 _ (Nat.ne_of_gt hel)).trans hT
    have new : ObjOk X.prog X.w (upd H s.heap.objs.size (.tup [.int (i : Nat), x])) h'' s.heap.objs.size (.tup [.int (i : Nat), x]) :=
      ⟨by show 2 ≤ sizeLine; decide, [.int i tk, y], .cons ⟨_, rfl⟩ (.cons ru .nil), ⟨_, hT2, rfl, _, rfl⟩⟩
    have I1 : Inv X pins σ (upd H s.heap.objs.size (.tup [.int (i : Nat), x])) { s with heap := h'', toks := tk + 1 } :=
      I.turnedNew (ch := [e, it]) (fun b ob hb q => (sb.2 b (fun z => hb (by simp [z]))).trans (hk b ob (fun z => hb (by simp [z])) (fun z => hb (by simp [z])) q)) hf (Nat.le_refl _) new
    refine ⟨.ref s.heap.objs.size, _, I1, rfl, ⟨_, x, rfl, I.hok.fresh (Nat.le_refl _), rfl, fun ys hy => by rw [I.tuple_inj hy hq]; exact hx⟩, ⟨⟨y, ?_⟩, st'.1.at fun o q => (sb.2 it (Ne.symm hne)).trans q, hne⟩, fun b hb => ?_⟩
    · have e1 : ((i + 1 : Nat) : Int) = (i : Int) + 1 := by omega
      rw [e1]
      exact he'
    · have hb' : b < s.heap.objs.size := by
        have z : b = e ∨ b = it := by simpa using hb
        rcases z with rfl | rfl
        · exact hel
        · exact hil
      rw [upd_ne (Nat.ne_of_lt hb')]
      exact (hf b hb).1
  done := by
    intro X hP hw hK hc i pins s σ H E I hf st hg
    subst hP hw hK
    obtain ⟨⟨old, he⟩, hit, hne⟩ := st
    obtain ⟨xs, hq, hx⟩ := hg
    obtain ⟨its, rv, tp, hz⟩ := I.tuple hq
    obtain ⟨f0, f1, f2, f3, f4, f5⟩ := hf it (by simp)
    have nta : a ≠ it := fun z => by
      obtain ⟨o1, e1, c1, _⟩ := hit
      obtain ⟨o2, e2, c2, _⟩ := tp
      rw [z, e1] at e2
      cases e2
      rw [c1] at c2
      injection c2 with c3
      exact absurd c3 (by decide)
    have sz : its.toArray.size = i := by
      have hl := rv.length
      rw [List.size_toArray, ← hl, hx]
    have D := Draws.tuple (prog := X.prog) (w := X.w) (A := X.A.in1) (show X.A.in1.handled = none from I.ok.hd hc) it a nta its.toArray
    refine wpAny_pyNext_enum_endD D he ⟨by rw [sz]; exact hit, tp⟩ fun h' eb => ⟨rfl, I.turned (t' := s.toks) (fun b o hb q => eb b o hb q) f0 f1 f3 f4 f5⟩
  self := fun A i s Q E st h => let ⟨⟨_, he⟩, _⟩ := st; wpAny_pyIter_enum he h
def iEnumT (K : PySem.W.Frag) (ta : TA) : TI := fun σ H R => ta σ H fun vs H1 => ∃ a xs, vs = [.ref a] ∧ SqT K H1 a xs ∧ R (Itet K a) H1
theorem pi_enumT {X : Cx} {e : Expr} {ta : TA} {p pos tpos : Pos} {elts : List Expr} {kk : Nat} (hg : Gl X "enumerate") (hm : X.mg "enumerate" = none) (ha : PA X [e] ta) (hs : starEach [e] X.env = [(false, eval e X.env)] := by rfl) :
    PI X (.Tuple elts kk tpos) (.Call (.Name "enumerate" p) [e] [] pos) (iEnumT X.K ta) := by
  refine ⟨fun pins s σ H R I h => Call_ (ld_blt I hg hm boot_enumerate (callWith_type1 (thn (ha.run pos pins s σ H _ I h) fun us s1 ⟨vs, H1, I1, r1, q1⟩ => ?_) hs rfl))⟩
  obtain ⟨a, xs, rfl, hq, q⟩ := q1
  cases r1 with
  | cons r rr =>
    cases rr
    cases r
    obtain ⟨its, rv, tp, hz⟩ := I1.tuple hq
    refine enumerate_made (begins_tuple a its.toArray) tp fun h' he hit hk => wpAny_pyIter_enum he ?_
    refine ⟨s1.heap.objs.size + 1, [s1.heap.objs.size + 1, s1.heap.objs.size], _, _, H1, rfl, I1.kept (t' := s1.toks) hk, turn_enumT a (s1.heap.objs.size + 1) s1.heap.objs.size, ⟨⟨.none, he⟩, ⟨_, hit, rfl, rfl⟩, Nat.succ_ne_self _⟩, fun b hb => ?_, q⟩
    have hle : s1.heap.objs.size ≤ b := by
      have z : b = s1.heap.objs.size + 1 ∨ b = s1.heap.objs.size := by simpa using hb
      rcases z with rfl | rfl
      · exact Nat.le_succ _
      · exact Nat.le_refl _
    have I2 : Inv X pins σ H1 { s1 with heap := h' } := I1.kept (t' := s1.toks) hk
    have old := I1.fpOk hle (I1.hok.fresh hle)
    exact old
theorem walk_enumT {K : PySem.W.Frag} {a : Addr} {xs : List V} : Walk (Itet K a) xs.length (fun H => SqT K H a xs) (YPair (fun i => some (.int (i : Nat))) (fun i => xs[i]?)) :=
  ⟨fun i H hi h => ⟨xs, xs[i], h, List.getElem?_eq_getElem hi⟩, fun H h => ⟨xs, h, rfl⟩, fun i H v H' hi h hy => by
    obtain ⟨T, x, e1, e2, e3, e4⟩ := hy
    exact ⟨T, .int (i : Nat), x, e1, e2, e3, rfl, e4 xs h⟩⟩
end Nb

set_option Elab.async false
set_option maxRecDepth 100000
set_option maxHeartbeats 4000000
/-! Data that stands in the heap, to a depth; rows of names. -/
namespace Nb
open PySem L2
mutual
/-- the value is this data: texts short, lists and tuples short, not deeper than n, no dict -/
inductive Td (H : Hp) : Nat → V → PyData → Prop
  | non {n} : Td H n .non .none
  | bl {n} (b : Bool) : Td H n (.bl b) (.bool b)
  | int {n} (i : Int) : Td H n (.int i) (.int i)
  | str {n} {z : Str} (h : Word z) : Td H n (.str z) (.str z)
  | lst {n} {a : Addr} {xs : List V} {ds : List PyData} (e : H a = some (.lst xs)) (l : xs.length ≤ 1000) (h : Tds H n xs ds) : Td H (n + 1) (.ref a) (.list ds)
  | tup {n} {a : Addr} {xs : List V} {ds : List PyData} (e : H a = some (.tup xs)) (l : xs.length ≤ 1000) (h : Tds H n xs ds) : Td H (n + 1) (.ref a) (.tuple ds)
inductive Tds (H : Hp) : Nat → List V → List PyData → Prop
  | nil {n} : Tds H n [] []
  | cons {n} {x : V} {d : PyData} {xs : List V} {ds : List PyData} (h : Td H n x d) (t : Tds H n xs ds) : Tds H n (x :: xs) (d :: ds)
end
section
variable {H H' : Hp}
mutual
theorem td_same (s : Same H H') : ∀ {n : Nat} {x : V} {d : PyData}, Td H n x d → Td H' n x d
  | _, _, _, .non => .non
  | _, _, _, .bl b => .bl b
  | _, _, _, .int i => .int i
  | _, _, _, .str h => .str h
  | _, _, _, .lst e l h => .lst (s _ _ e) l (tds_same s h)
  | _, _, _, .tup e l h => .tup (s _ _ e) l (tds_same s h)
theorem tds_same (s : Same H H') : ∀ {n : Nat} {xs : List V} {ds : List PyData}, Tds H n xs ds → Tds H' n xs ds
  | _, _, _, .nil => .nil
  | _, _, _, .cons h t => .cons (td_same s h) (tds_same s t)
end
mutual
theorem td_up : ∀ {n : Nat} {x : V} {d : PyData}, Td H n x d → Td H (n + 1) x d
  | _, _, _, .non => .non
  | _, _, _, .bl b => .bl b
  | _, _, _, .int i => .int i
  | _, _, _, .str h => .str h
  | _, _, _, .lst e l h => .lst e l (tds_up h)
  | _, _, _, .tup e l h => .tup e l (tds_up h)
theorem tds_up : ∀ {n : Nat} {xs : List V} {ds : List PyData}, Tds H n xs ds → Tds H (n + 1) xs ds
  | _, _, _, .nil => .nil
  | _, _, _, .cons h t => .cons (td_up h) (tds_up t)
end
mutual
theorem td_dp {K : PySem.W.Frag} : ∀ {n : Nat} {x : V} {d : PyData}, Td H n x d → Dp K H x d ∧ d.canLay0 = true ∧ d.depth ≤ n
  | _, _, _, .non => ⟨.non, by simp [PyData.canLay0], by simp [PyData.depth]⟩
  | _, _, _, .bl b => ⟨.bl b, by simp [PyData.canLay0], by simp [PyData.depth]⟩
  | _, _, _, .int i => ⟨.int i, by simp [PyData.canLay0], by simp [PyData.depth]⟩
  | _, _, _, .str h => ⟨.str _, by simpa [PyData.canLay0] using h.2, by simp [PyData.depth]⟩
  | _, _, _, .lst e l h => by
    have k := tds_dp (K := K) h
    exact ⟨.lst (SqL.of e) k.1, by simpa [PyData.canLay0] using k.2.1, by simpa [PyData.depth] using k.2.2⟩
  | _, _, _, .tup e l h => by
    have k := tds_dp (K := K) h
    exact ⟨.tup (SqT.of e) k.1, by simpa [PyData.canLay0] using k.2.1, by simpa [PyData.depth] using k.2.2⟩
theorem tds_dp {K : PySem.W.Frag} : ∀ {n : Nat} {xs : List V} {ds : List PyData}, Tds H n xs ds → DpAll K H xs ds ∧ PyData.canLayAll0 ds = true ∧ PyData.depthAll ds ≤ n
  | _, _, _, .nil => ⟨.nil, by simp [PyData.canLayAll0], by simp [PyData.depthAll]⟩
  | _, _, _, .cons h t => by
    have k := td_dp (K := K) h
    have j := tds_dp (K := K) t
    refine ⟨.cons k.1 j.1, by simp [PyData.canLayAll0, k.2.1, j.2.1], ?_⟩
    simp only [PyData.depthAll]
    exact Nat.max_le.mpr ⟨k.2.2, j.2.2⟩
end
theorem td_shaped {K : PySem.W.Frag} {n : Nat} {x : V} {d : PyData} (h : Td H n x d) (l : n ≤ 64) : SeqAt.shaped d = true := by
  have k := td_dp (K := K) h
  exact Fine.shaped (n := n) ⟨k.2.1, k.2.2⟩ l
theorem tds_len : ∀ {n : Nat} {xs : List V} {ds : List PyData}, Tds H n xs ds → xs.length = ds.length
  | _, _, _, .nil => rfl
  | _, _, _, .cons _ t => congrArg (· + 1) (tds_len t)
theorem tds_get : ∀ {n : Nat} {xs : List V} {ds : List PyData} {i : Nat} {x : V}, Tds H n xs ds → xs[i]? = some x → ∃ d, ds[i]? = some d ∧ Td H n x d
  | _, _, _, _, _, .nil, e => by simp at e
  | _, _, _, 0, _, .cons h t, e => by
    simp at e
    subst e
    exact ⟨_, rfl, h⟩
  | _, _, _, i + 1, _, .cons h t, e => by
    obtain ⟨d, e1, e2⟩ := tds_get (i := i) t (by simpa using e)
    exact ⟨d, by simpa using e1, e2⟩
theorem tds_app : ∀ {n : Nat} {xs ys : List V} {ds es : List PyData}, Tds H n xs ds → Tds H n ys es → Tds H n (xs ++ ys) (ds ++ es)
  | _, _, _, _, _, .nil, k => k
  | _, _, _, _, _, .cons h t, k => .cons h (tds_app t k)
theorem tds_take : ∀ {n : Nat} {xs : List V} {ds : List PyData} (i : Nat), Tds H n xs ds → Tds H n (xs.take i) (ds.take i)
  | _, _, _, 0, _ => .nil
  | _, _, _, i + 1, .nil => .nil
  | _, _, _, i + 1, .cons h t => .cons h (tds_take i t)
theorem tds_drop : ∀ {n : Nat} {xs : List V} {ds : List PyData} (i : Nat), Tds H n xs ds → Tds H n (xs.drop i) (ds.drop i)
  | _, _, _, 0, t => t
  | _, _, _, i + 1, .nil => .nil
  | _, _, _, i + 1, .cons _ t => tds_drop i t
theorem tds_rev : ∀ {n : Nat} {xs : List V} {ds : List PyData}, Tds H n xs ds → Tds H n xs.reverse ds.reverse
  | _, _, _, .nil => .nil
  | _, _, _, .cons h t => by
    rw [List.reverse_cons, List.reverse_cons]
    exact tds_app (tds_rev t) (.cons h .nil)
/-- some data for each -/
theorem tds_ex : ∀ {n : Nat} {xs : List V}, (∀ x ∈ xs, ∃ d, Td H n x d) → ∃ ds, Tds H n xs ds
  | _, [], _ => ⟨[], .nil⟩
  | n, x :: xs, h => by
    obtain ⟨d, k⟩ := h x (List.mem_cons_self ..)
    obtain ⟨ds, j⟩ := tds_ex (n := n) (xs := xs) fun y hy => h y (List.mem_cons_of_mem _ hy)
    exact ⟨d :: ds, .cons k j⟩
theorem tds_mem : ∀ {n : Nat} {xs : List V} {ds : List PyData} {x : V}, Tds H n xs ds → x ∈ xs → ∃ d, d ∈ ds ∧ Td H n x d
  | _, _, _, _, .nil, e => by cases e
  | _, _, _, _, .cons h t, e => by
    rcases List.mem_cons.mp e with rfl | e
    · exact ⟨_, List.mem_cons_self .., h⟩
    · obtain ⟨d, e1, e2⟩ := tds_mem t e
      exact ⟨d, List.mem_cons_of_mem _ e1, e2⟩
theorem td_ty {K : PySem.W.Frag} : ∀ {n : Nat} {x : V} {d : PyData}, Td H n x d → TyX K H x (.type (match d with | .none => "NoneType" | .bool _ => "bool" | .int _ => "int" | .str _ => "str" | .list _ => "list" | .tuple _ => "tuple" | .dict _ => "dict"))
  | _, _, _, .non => .base .non
  | _, _, _, .bl b => .base (.bl b)
  | _, _, _, .int i => .base (.int i)
  | _, _, _, .str (z := z) h => .base (.str z)
  | _, _, _, .lst e l h => .base (.lst e)
  | _, _, _, .tup e l h => .base (.tup e)
theorem td_known {K : PySem.W.Frag} : ∀ {n : Nat} {x : V} {d : PyData}, Td H n x d → Known K H x
  | _, _, _, .non => known_non
  | _, _, _, .bl b => known_bl b
  | _, _, _, .int i => known_int i
  | _, _, _, .str h => known_str h.1 h.2
  | _, _, _, .lst e l h => known_lst e
  | _, _, _, .tup e l h => known_tup e
end
/-- in, a tuple of data -/
def rInT (K : PySem.W.Frag) : R2 := fun x y H Q => ∃ d ds, Dp K H x d ∧ Dp K H y (.tuple ds) ∧ SeqAt.shaped d = true ∧ SeqAt.shaped (.tuple ds) = true ∧ Q (.bl (ds.any fun z => PyData.eqv z d)) H
theorem op_inT {X : Cx} (hu : X.A.units + 65 < cLine) : OpR X (compareOp .In) (rInT X.K) := by
  intro pins s σ H x y v u Q I rx ry h
  obtain ⟨d, ds, hd, he, sd, se, q⟩ := h
  obtain ⟨as, r1⟩ := Dp.reads I d x v hd rx
  obtain ⟨bs, r2⟩ := Dp.reads I (.tuple ds) y u he ry
  have l1 := SeqAt.canLay_of_shaped se
  have d1 := SeqAt.depth_of_shaped sd
  refine SeqAt.in_tuple_reads r2 r1 (by simpa [PyData.canLay0] using l1) (SeqAt.canLay_of_shaped sd) ?_ ⟨.bl _, H, I, rfl, q⟩
  have := Nat.min_le_right (PyData.depthAll ds) d.depth
  omega
/-! ### rows of names -/
def GoodRow (row : List Str) : Prop := row.Nodup ∧ (∀ z ∈ row, isNm z = true ∧ Word z) ∧ row.length ≤ 8
def RowsAt (H : Hp) (r : Addr) (rows : List (List Str)) : Prop := ∃ as : List Addr, H r = some (.tup (as.map V.ref)) ∧ as.length = rows.length ∧ ∀ (k : Nat) (a : Addr) (row : List Str), as[k]? = some a → rows[k]? = some row → Rd H a (.tup (row.map V.str))
theorem rows_same {H H' : Hp} {r : Addr} {rows : List (List Str)} (s : Same H H') (h : RowsAt H r rows) : RowsAt H' r rows :=
  let ⟨as, h1, h2, h3⟩ := h; ⟨as, s _ _ h1, h2, fun k a row e1 e2 => rd_same s (h3 k a row e1 e2)⟩
theorem strsOf_map : ∀ l : List Str, strsOf (l.map V.str) = l
  | [] => rfl
  | x :: l => by
    show x :: strsOf (l.map V.str) = x :: l
    rw [strsOf_map l]
theorem seen_nodup : ∀ (l acc : List Str), (acc ++ l).Nodup → l.foldl grow acc = acc ++ l
  | [], acc, _ => by simp
  | x :: l, acc, h => by
    have hx : acc.any (· == x) = false := by
      cases e : acc.any (· == x) with
      | false => rfl
      | true =>
        obtain ⟨y, hy, ey⟩ := List.any_eq_true.mp e
        have ey2 : y = x := eq_of_beq ey
        subst ey2
        have h2 := (List.nodup_append.mp h).2.2 y hy y (List.mem_cons_self ..)
        exact absurd rfl h2
    have g : grow acc x = acc ++ [x] := by
      unfold grow
      rw [hx]
      rfl
    show l.foldl grow (grow acc x) = acc ++ x :: l
    rw [g, seen_nodup l (acc ++ [x]) (by simpa using h)]
    simp
theorem good_diff {row : List Str} (h : GoodRow row) : diffV (row.map V.str) = true := by
  unfold diffV
  have h1 : (row.map V.str).all nameV = true := by
    rw [List.all_map, List.all_eq_true]
    intro z hz
    exact (h.2.1 z hz).1
  have h2 : seen row = row := by
    have := seen_nodup row [] (by simpa using h.1)
    simpa [seen] using this
  rw [h1, strsOf_map, h2]
  simp
theorem good_thing {K : PySem.W.Frag} {H : Hp} {a : Addr} {row : List Str} (h : GoodRow row) (e : Rd H a (.tup (row.map V.str))) : Thing K H (.ref a) :=
  .inl ⟨a, _, rfl, e, by rw [List.length_map]; exact Nat.le_trans h.2.2 (by decide), fun y hy => by
    obtain ⟨z, hz, rfl⟩ := List.mem_map.mp hy
    exact (h.2.1 z hz).2.item⟩
/-! ### clashes, as data -/
/-- the place of a name in a row -/
def place (row : List Str) (d : PyData) : Option Nat := match d with
  | .str x => row.findIdx? (· == x)
  | _ => none
def nmD : PyData → Bool
  | .str x => isNm x
  | _ => false
def ixD (n : Nat) : PyData → Bool
  | .int i => decide (0 ≤ i) && decide (i < n)
  | _ => false
def before (row : List Str) (a b : PyData) : Bool := match place row a, place row b with
  | some i, some j => decide (i < j)
  | _, _ => false
theorem before_str (row : List Str) (x y : Str) : before row (.str x) (.str y) = match row.findIdx? (· == x), row.findIdx? (· == y) with
  | some i, some j => decide (i < j)
  | _, _ => false := rfl
def stepD (rows : List (List Str)) : PyData → Bool
  | .tuple [a, b, .int i] => ixD rows.length (.int i) && before (rows.getD i.toNat []) a b
  | _ => false
def sndD : PyData → PyData
  | .tuple [_, b, _] => b
  | _ => .none
def fstD : PyData → PyData
  | .tuple [a, _, _] => a
  | _ => .none
def strD : PyData → Str
  | .str x => x
  | _ => Str.empty
/-- each step begins where the one ahead of it ends, the first one where the last one ends -/
def ringP (ds : List PyData) (j : Nat) : Bool := decide (strD (sndD (ds.getD (if j = 0 then ds.length - 1 else j - 1) .none)) = strD (fstD (ds.getD j .none)))
def ringD (ds : List PyData) : Bool := (List.range ds.length).all (ringP ds)
def clashD (rows : List (List Str)) : PyData → Bool
  | .tuple ds => decide (2 ≤ ds.length) && ds.all (stepD rows) && ringD ds
  | _ => false
theorem clash_tup (rows : List (List Str)) (ds : List PyData) : clashD rows (.tuple ds) = (decide (2 ≤ ds.length) && ds.all (stepD rows) && ringD ds) := rfl
/-- a step that fits is three values -/
theorem step_form {rows : List (List Str)} {H : Hp} {n : Nat} {v : V} {d : PyData} (h : stepD rows d = true) (t : Td H n v d) : ∃ b x y k, v = .ref b ∧ d = .tuple [.str x, .str y, .int k] ∧ H b = some (.tup [.str x, .str y, .int k]) := by
  cases t with
  | tup e l ts =>
    rename_i m a xs ds
    match ds, h with
    | [d1, d2, .int k], h =>
      cases ts with
      | cons k1 ts => cases ts with
        | cons k2 ts => cases ts with
          | cons k3 ts =>
            cases ts
            have hb : before (rows.getD k.toNat []) d1 d2 = true := (Bool.and_eq_true_iff.mp h).2
            cases k3
            cases k1 with
            | str w1 => cases k2 with
              | str w2 => exact ⟨_, _, _, _, rfl, rfl, e⟩
              | _ => simp [before, place] at hb
            | _ => simp [before, place] at hb
  | _ => cases h
/-- a dict comprehension over what walks -/
theorem dc_it {J : It} {n : Nat} {G : Hp → Prop} {Y : Nat → Hp → V → Hp → Prop} (w : Walk J n G Y) {g : TG} {tt : TT} {tk tv : TE} {vs : List Nat} {σ : St} {H1 : Hp} {D : Addr} {Qd : Hp → Prop} (Pv : Nat → Hp → Prop) (h0 : Pv 0 (upd H1 D (.dK []))) (hG : ∀ i H, i ≤ n → Pv i H → G H)
    (hs : ∀ i x H H', i < n → Pv i H → Y i H x H' → g x (wipe σ vs) H' fun σ2 H2 => wipe σ2 vs = wipe σ vs ∧ tt σ2 H2 fun b H3 =>
      if b = true then tk σ2 H3 fun y H4 => tv σ2 H4 fun z H5 => ∃ kvs k, y = kV k ∧ H5 D = some (.dK kvs) ∧ kvs.length < sizeLine ∧ Pv (i + 1) (upd H5 D (.dK (putK kvs k z))) else Pv (i + 1) H3) (hd : ∀ H, Pv n H → Qd H) :
    ∃ W : Nat → Nat → Hp → Prop, (∃ m, W 0 m (upd H1 D (.dK []))) ∧ ∀ i m H, W i m H →
      (J.stop i H ∧ Qd H) ∨ (J.go i H ∧ ∃ Nx : Hp → Prop, (∀ H', Nx H' → ∃ m', m' < m ∧ W (i + 1) m' H') ∧ ∀ x H', J.yld i H x H' → g x (wipe σ vs) H' fun σ2 H2 => wipe σ2 vs = wipe σ vs ∧ tt σ2 H2 fun b H3 =>
        if b = true then tk σ2 H3 fun y H4 => tv σ2 H4 fun z H5 => ∃ kvs k, y = kV k ∧ H5 D = some (.dK kvs) ∧ kvs.length < sizeLine ∧ Nx (upd H5 D (.dK (putK kvs k z))) else Nx H3) := by
  refine ⟨fun i m H => m + i = n ∧ Pv i H, ⟨n, rfl, h0⟩, fun i m H ⟨em, p⟩ => ?_⟩
  by_cases hlt : i < n
  · exact .inr ⟨w.goes i H hlt (hG i H (Nat.le_of_lt hlt) p), Pv (i + 1), fun H' p' => ⟨m - 1, by omega, by omega, p'⟩, fun x H' y => hs i x H H' hlt p (w.yields i H x H' hlt (hG i H (Nat.le_of_lt hlt) p) y)⟩
  · have e : i = n := by omega
    subst e
    exact .inl ⟨w.stops H (hG _ H (Nat.le_refl _) p), hd H p⟩
end Nb

set_option Elab.async false
set_option maxRecDepth 100000
set_option maxHeartbeats 4000000
namespace Nb
open PySem L2
theorem src_at {H : Hp} {p D : Addr} {o : HO} {b : Nat} (S : Src H p b) (n : p ≠ D) : Src (upd H D o) p b := by
  obtain ⟨c, m, r, e, k⟩ := S
  exact ⟨c, m, r, by rw [upd_ne n]; exact e, k⟩
theorem src_fresh {H : Hp} {p D : Addr} {b : Nat} (S : Src H p b) (h : H D = none) : D ≠ p := fun z => by
  obtain ⟨u, e⟩ := S.some
  rw [← z, h] at e
  cases e
/-- tuple + tuple, whichever of the two is empty -/
theorem cat_tup {K : PySem.W.Frag} {H : Hp} {a b : Addr} {xs ys : List V} {Q : VK} (ha : SqT K H a xs) (hb : H b = some (.tup ys)) (hy : ys ≠ []) (hl : xs.length + ys.length ≤ sizeLine)
    (h : ∀ p H', Same H H' → (∀ c, H c ≠ none → H' c = H c) → H' p = some (.tup (xs ++ ys)) → Q (.ref p) H') : rCatA K (.ref a) (.ref b) H Q := by
  refine ⟨a, b, xs, ys, rfl, rfl, ha, SqT.of hb, hl, fun e => ?_, fun _ e => absurd e hy, fun _ _ p hp => ?_⟩
  · subst e
    exact h b H (Same.refl H) (fun _ _ => rfl) hb
  · exact h p _ (same_new hp) (fun c hc => upd_ne (fun z => hc (z ▸ hp))) upd_same
theorem cut_mem {xs : List V} {lo hi : Option Int} {y : V} (h : y ∈ cutV xs lo hi) : y ∈ xs := List.mem_of_mem_drop (List.mem_of_mem_take h)
theorem map_item {K : PySem.W.Frag} {H : Hp} {ys : List Str} (h : ∀ z ∈ ys, Word z) : ∀ y ∈ ys.map V.str, Item K H y := fun y hy => by
  obtain ⟨z, hz, rfl⟩ := List.mem_map.mp hy
  exact (h z hz).item
/-- the law's promise -/
def spLaw (K : PySem.W.Frag) : Sp := fun vs H Q _ => ∃ (a : Addr) (ns : List Int), vs = [.ref a] ∧ SqL K H a (ns.map V.int) ∧ ns.length ≤ 63 ∧ ∀ H', Q (.bl true) H'
end Nb

set_option Elab.async false
set_option linter.all false
set_option maxRecDepth 100000
set_option maxHeartbeats 4000000
/-! Classes, their methods, and defs with a star, each with all that a caller must know. -/
namespace Nb
open PySem PySem.Spec PyProof.Rows
open L2 hiding del del_ne del_same
/-- a class of the text: the names of its instances' attributes are no names of the class -/
structure Kl (K : PySem.W.Frag) (mg : Str → Option Value) (x : Str) (C : Addr) (fs : List Str) : Prop where
  cl : Cls K C
  g : mg x = some (.ref C)
  no : ∀ f ∈ fs, NoAttr K C f
structure Mn (P : Program) (w : World) (K : PySem.W.Frag) (mg : Str → Option Value) (base : Heap) (CX : CXT) (k : Nat) (C : Addr) (m : Str) (ps : List Str) (sp : Sp) : Prop where
  ex : ∃ (f : Addr) (fd : FuncData), Meth K C m f ∧ Binds K fd ps [] ∧ FnOk P w K mg base CX k f fd ps sp
/-- a class's own __init__ -/
structure Mi (P : Program) (w : World) (K : PySem.W.Frag) (mg : Str → Option Value) (base : Heap) (CX : CXT) (k : Nat) (C : Addr) (ps : List Str) (sp : Sp) : Prop where
  ex : ∃ (f : Addr) (fd : FuncData), Mk K C f ∧ Binds K fd ps [] ∧ FnOk P w K mg base CX k f fd ps sp
/-- a def with a star: its promise is of the positional arguments -/
structure Dr (P : Program) (w : World) (K : PySem.W.Frag) (mg : Str → Option Value) (base : Heap) (CX : CXT) (k : Nat) (x : Str) (sp : Sp) : Prop where
  ex : ∃ f : Addr, PySem.W.keepIn K (.ref f) = true ∧ mg x = some (.ref f) ∧ FnR P w K mg base CX k f sp
section
variable {X : Cx} {CX : CXT} {k : Nat} {ps : List Str} {sp : Sp} {E : XK} {W : L2.St → XK} {x m : Str} {p pos apos : Pos} {o e : Expr} {es : List Expr} {ta : TE} {t : TA} {C : Addr}
theorem pe_M {pl : Sem Bool} (D : Mn X.prog X.w X.K X.mg X.base CX k C m ps sp) (c : Cls X.K C) (he : PE X o ta) (hr : Room k X.A) (hx : Passes CX X E) (ha : PA X (e :: es) t)
    (hst : starEach (e :: es) X.env = (false, eval e X.env) :: starEach es X.env := by rfl) (hpl : (backTo pos (starEach es X.env)).any (·.1) = false := by rfl)
    (ht : eval (.Call (.Attribute o m apos) (e :: es) [] pos) X.env = (do
      let ov ← eval o X.env
      standAt apos.atName
      let (f, first) ← holding [ov] (getMethod ov m pl)
      callWith pos f first (backTo pos (starEach (e :: es) X.env)) (backToKw pos (keywordEach [] X.env))) := by rfl) : PE X (.Call (.Attribute o m apos) (e :: es) [] pos) (tMeth C m sp [] E ta t) :=
  let ⟨_, _, M, b, F⟩ := D.ex
  pe_meth he c M F hr b .nil hx ha hst hpl ht
theorem pe_M0 {pl : Sem Bool} (D : Mn X.prog X.w X.K X.mg X.base CX k C m ps sp) (c : Cls X.K C) (he : PE X o ta) (hr : Room k X.A) (hx : Passes CX X E)
    (ht : eval (.Call (.Attribute o m apos) [] [] pos) X.env = (do
      let ov ← eval o X.env
      standAt apos.atName
      let (f, first) ← holding [ov] (getMethod ov m pl)
      callWith pos f first (backTo pos (starEach [] X.env)) (backToKw pos (keywordEach [] X.env))) := by rfl) : PE X (.Call (.Attribute o m apos) [] [] pos) (tMeth C m sp [] E ta tNil) :=
  let ⟨_, _, M, b, F⟩ := D.ex
  pe_meth0 he c M F hr b .nil hx ht
theorem pe_Mi (D : Mi X.prog X.w X.K X.mg X.base CX k C ps sp) (hr : Room (k + 1) X.A) (hg : Gl X x) (hm : X.mg x = some (.ref C)) (hx : Passes CX X E) (ha : PA X (e :: es) t)
    (hdb : (x == ("__debug__" : Str)) = false := by decide) (he : starEach (e :: es) X.env = (false, eval e X.env) :: starEach es X.env := by rfl) (hpl : (backTo pos (starEach es X.env)).any (·.1) = false := by rfl) : PE X (.Call (.Name x p) (e :: es) [] pos) (tMake C sp [] E t) :=
  let ⟨_, _, M, b, F⟩ := D.ex
  pe_make M F hr hg hm b .nil hx ha hdb he hpl
theorem pe_Mi0 (D : Mi X.prog X.w X.K X.mg X.base CX k C ps sp) (hr : Room (k + 1) X.A) (hg : Gl X x) (hm : X.mg x = some (.ref C)) (hx : Passes CX X E) (hdb : (x == ("__debug__" : Str)) = false := by decide) : PE X (.Call (.Name x p) [] [] pos) (tMake C sp [] E tNil) :=
  let ⟨_, _, M, b, F⟩ := D.ex
  pe_make0 M F hr hg hm b .nil hx hdb
def tR (sp : Sp) (E : XK) (t : TA) : TE := fun σ H Q => t σ H fun vs H1 => sp vs H1 Q E
theorem pe_R (D : Dr X.prog X.w X.K X.mg X.base CX k x sp) (hr : Room k X.A) (hg : Gl X x) (hx : Passes CX X E) (ha : PA X (e :: es) t)
    (hdb : (x == ("__debug__" : Str)) = false := by decide) (he : starEach (e :: es) X.env = (false, eval e X.env) :: starEach es X.env := by rfl) (hpl : (backTo pos (starEach es X.env)).any (·.1) = false := by rfl) : PE X (.Call (.Name x p) (e :: es) [] pos) (tR sp E t) := by
  obtain ⟨f, kp, g, F⟩ := D.ex
  exact ⟨fun pins s σ H Q I h => wpAny_Call_Name_kw (ld_glob I hg g (PySem.W.callWith_K (h₀ := X.base) I.ok.mod.kin kp (thn (ha.run pos pins s σ H _ I h) fun us s1 ⟨vs, H1, I1, r, q⟩ => ⟨I1.kIn, wpAny_call (run_fnR F hr hx I1 r q)⟩) he hpl) hdb)⟩
theorem pe_R0 (D : Dr X.prog X.w X.K X.mg X.base CX k x sp) (hr : Room k X.A) (hg : Gl X x) (hx : Passes CX X E) (hdb : (x == ("__debug__" : Str)) = false := by decide) : PE X (.Call (.Name x p) [] [] pos) (tR sp E tNil) := by
  obtain ⟨f, kp, g, F⟩ := D.ex
  exact ⟨fun pins s σ H Q I h => wpAny_Call_Name_kw (ld_glob I hg g (PySem.W.callWith_K0 I.kIn kp (wpAny_call (run_fnR F hr hx I .nil h))) hdb)⟩
theorem pe_Rs {sq : Pos} (D : Dr X.prog X.w X.K X.mg X.base CX k x sp) (hr : Room k X.A) (hg : Gl X x) (hx : Passes CX X E) (he : PE X e ta) (hdb : (x == ("__debug__" : Str)) = false := by decide) (hst : starEach [.Starred e sq] X.env = [(true, eval e X.env)] := by rfl) :
    PE X (.Call (.Name x p) [.Starred e sq] [] pos) (fun σ H Q => ta σ H fun y H1 => ∃ a xs, y = V.ref a ∧ (SqT X.K H1 a xs ∨ SqL X.K H1 a xs) ∧ sp xs H1 Q E) :=
  let ⟨_, kp, g, F⟩ := D.ex
  StX.pe_callS1 F hr kp hg g hx he hdb hst
/-- a def that is never called needs no promise -/
theorem fn_never {P : Program} {w : World} {K : PySem.W.Frag} {mg : Str → Option Value} {base : Heap} {f : Addr} {fd : FuncData} : FnOk P w K mg base CX k f fd ps fun _ _ _ _ => False := ⟨fun _ _ _ _ h => h.elim, fun _ _ _ _ _ _ _ _ _ _ _ _ _ h => h.elim⟩
end
/-! ### an instance whose attributes are told in the order of their first store -/
theorem ins_put {H : Hp} {a C dx : Addr} {fs : List (Str × V)} : upd H a (.ins C dx fs) a = some (.ins C dx fs) := upd_same
end Nb
namespace Nb
open PySem
open L2 hiding del del_ne del_same
/-- e.f within a comprehension: the written part is named -/
theorem pe_fldK {X : Cx} {K : PySem.W.Frag} {e : Expr} {f : Str} {pos : Pos} {ta : TE} (hK : X.K = K) (he : PE X e ta) (hb : attributeBase e f X.env (eval e X.env) = eval e X.env) : PE X (.Attribute e f pos) (tFld K ta f) := by
  subst hK
  exact pe_fld he hb
/-- len(x) within a comprehension: the written part is named -/
theorem call_len_seqK {X : Cx} {K : PySem.W.Frag} (hK : X.K = K) : CallR X (.builtin "len") (fun xs H Q => ∃ p ys, xs = [.ref p] ∧ (SqL K H p ys ∨ SqT K H p ys) ∧ Q (.int ys.length) H) := by
  subst hK
  exact call_len_seq
def spStar (sp : Sp) : Sp := fun vs H Q E => vs.length ≤ 100000 ∧ ∀ p, H p = none → sp [.ref p] (upd H p (.tup vs)) Q E
/-- a def with a star and nothing else, by its body -/
theorem okStar {P : Program} {w : World} {K : PySem.W.Frag} {mg : Str → Option Value} {base : Heap} {x qual pv : Str} {st : Stmt} {f : Addr} {fd : FuncData} {N : List Str} {k : Nat} {sp : Sp} (F : Fun K x qual st f fd) (S : FnScope N [pv] (defScope st))
    (hb0 : ∀ (kV doc pm : Value) (an : Option Addr) (cdv ct : Value), bindArgs (PySem.W.fnOf x qual (defArgs st) (defBody st) (defScope st) .none kV doc pm an cdv ct) ⟨[], []⟩ = (newTuple [] >>= fun t => pure [(pv, t)]))
    (hb1 : ∀ (kV doc pm : Value) (an : Option Addr) (cdv ct : Value) (r : Value) (rs : List Value), bindArgs (PySem.W.fnOf x qual (defArgs st) (defBody st) (defScope st) .none kV doc pm an cdv ct) ⟨r :: rs, []⟩ = (newTuple (r :: rs) >>= fun t => pure [(pv, t)]))
    (hbody : ∀ (cdv : Value) (A : Around) (outer : List Env) (s : Shared) (H : Hp) (vs : List V) (Q : VK) (E : XK), Room k (A.deeper (PyProof.Rows.envOfC qual (defScope st) s.heap.objs.size f cdv)) → sp vs H Q E →
      ∃ t, PSs (cxOf CX0 P w K mg base N qual (defScope st) f cdv A outer s H E).nox (defBody st) t ∧ t { nx := fun _ H' => Q .non H', rt := Q } (start N vs) H) : FnR P w K mg base CX0 (k + 1) f (spStar sp) := by
  obtain ⟨oc, od, kV, doc, pm, an, cdv, ct, osl, rfl, lk, hcd⟩ := F.ex
  refine (StX.fn_star (ps := []) (sp := sp) lk hcd S StX.cxUp_none (fun us rest hl => ?_) (fun A outer s H vs Q E hr h => ?_)).imp fun vs H Q E h => ⟨[], vs, rfl, rfl, line100 h.1, fun p np => h.2 p np⟩
  · cases us with
    | cons a as => cases hl
    | nil =>
      cases rest with
      | nil => exact hb0 kV doc pm an cdv ct
      | cons r rs => exact hb1 kV doc pm an cdv ct r rs
  · obtain ⟨t, h, q⟩ := hbody cdv A outer s H vs Q E hr h
    exact ⟨t, h.nox, q⟩
end Nb

set_option Elab.async false
set_option linter.all false
set_option maxRecDepth 100000
set_option maxHeartbeats 4000000
/-! Comprehensions whose items are drawn from the source. -/
namespace Nb
open PySem
open L2 hiding del del_ne del_same
theorem fr_step {H0 H H' : Hp} {p : Addr} (f : Same (del H0 p) H) (s : Same (del H p) H') : Same (del H0 p) H' := (same_del f del_at).trans s
section
variable {J : It} {n : Nat} {G : Hp → Prop} {Y : Nat → Hp → V → Hp → Prop} {g : TG} {te : TE} {vs : List Nat} {σ : L2.St} {H1 : Hp} {D : Addr} {Qd : Hp → Prop}
theorem lcSrc (w : Walk J n G Y) (p : Addr) (b k : Nat) (R : Nat → V → Hp → Prop) (hR : ∀ i y H H', Same H H' → R i y H → R i y H') (hn : n ≤ 100000) (hD : H1 D = none) (S : Src H1 p b) (hG : ∀ H, Same (del H1 p) H → G H)
    (hs : ∀ i x H H' (Nx : VK), i < n → Same (del H1 p) H → (∃ xs, H D = some (.lst xs)) → D ≠ p → Src H p (b + k * i) → Y i H x H' → (∀ y H4, Same (del H p) H4 → Src H4 p (b + k * (i + 1)) → R i y (del (del H4 D) p) → Nx y H4) →
      g x (wipe σ vs) H' fun σ2 H2 => wipe σ2 vs = wipe σ vs ∧ te σ2 H2 Nx)
    (hd : ∀ H ys, Same (del H1 p) H → H D = some (.lst ys) → Src H p (b + k * n) → F2 (fun i y => R i y H) (List.range n) ys → Qd H) : LcGoal J g tYes te vs σ H1 D Qd := by
  have nDp : D ≠ p := src_away S hD
  have D0 : (del H1 p) D = none := by rw [del_ne nDp]; exact hD
  have up : ∀ {H H4 : Hp} {o : HO}, Same (del H p) H4 → Same (del (del H D) p) (del (del (upd H4 D o) D) p) := fun {H H4 o} s a u e => by
    by_cases h1 : a = p
    · rw [h1, del_at] at e
      cases e
    by_cases h2 : a = D
    · rw [h2, del_ne nDp, del_at] at e
      cases e
    rw [del_ne h1, del_ne h2] at e ⊢
    rw [upd_ne h2]
    exact s _ _ (by rw [del_ne h1]; exact e)
  refine lc_it w (fun i H => ∃ ys, Same (del H1 p) H ∧ H D = some (.lst ys) ∧ Src H p (b + k * i) ∧ F2 (fun j y => R j y (del (del H D) p)) (List.range i) ys)
    ⟨[], del_same.trans (same_new hD), upd_same, by rw [Nat.mul_zero]; exact S.same (same_new hD), .nil⟩ (fun i H _ ⟨_, s, _⟩ => hG H s) (fun i x H H' hi ⟨ys, s, e, S', f⟩ y => ?_)
    (fun H ⟨ys, s, e, S', f⟩ => hd H ys s e S' (f2_imp (fun a c z => hR _ _ _ _ (fun a u e => by
      by_cases h1 : a = p
      · rw [h1, del_at] at e
        cases e
      by_cases h2 : a = D
      · rw [h2, del_ne nDp, del_at] at e
        cases e
      rw [del_ne h1, del_ne h2] at e
      exact e) z) f))
  have hl : ys.length ≤ i := by
    rw [← f2_len f, List.length_range]
    exact Nat.le_refl _
  have z := hs i x H H' (fun y H4 => ∃ acc, H4 D = some (.lst acc) ∧ acc.length < sizeLine ∧ ∃ ys, Same (del H1 p) (upd H4 D (.lst (acc ++ [y]))) ∧ (upd H4 D (.lst (acc ++ [y]))) D = some (.lst ys) ∧ Src (upd H4 D (.lst (acc ++ [y]))) p (b + k * (i + 1)) ∧ F2 (fun j y' => R j y' (del (del (upd H4 D (.lst (acc ++ [y]))) D) p)) (List.range (i + 1)) ys)
    hi s ⟨_, e⟩ nDp S' y fun v H4 s4 S4 r => ?_
  · exact z
  · have nD2 : (del H p) D = some (.lst ys) := by rw [del_ne nDp]; exact e
    refine ⟨ys, s4 _ _ nD2, Nat.lt_of_le_of_lt hl (Nat.lt_of_lt_of_le hi (line100 hn)), ys ++ [v], same_at (fr_step s s4) D0, upd_same, src_at S4 (Ne.symm nDp), ?_⟩
    rw [List.range_succ]
    refine f2_snoc (f2_imp (fun a c q => hR _ _ _ _ (up s4) q) f) (hR _ _ _ _ (fun a u e => ?_) r)
    by_cases h1 : a = p
    · rw [h1, del_at] at e
      cases e
    by_cases h2 : a = D
    · rw [h2, del_ne nDp, del_at] at e
      cases e
    rw [del_ne h1, del_ne h2] at e ⊢
    rw [upd_ne h2]
    exact e
end
end Nb

set_option Elab.async false
set_option maxRecDepth 100000
set_option maxHeartbeats 4000000
/-! A caught error that is asked behind its handler: it is told in the heap from then on. -/
namespace Nb
open PySem PySem.Spec PyProof.Rows L2
/-- an error of the class cls, its dict at d, that flies no more -/
def Ke (cls : Value) (d : Option Addr) (a : Addr) : HO := .ext fun h => ∃ (oe : Obj) (vs : Array Value), h.get? a = some oe ∧ Zc cls d oe ∧ oe.data = .fields vs
theorem ke_ok {P : Program} {w : World} {H : Hp} {h : Heap} {a : Addr} {cls : Value} {d : Option Addr} {oe : Obj} {vs : Array Value} (e : h.get? a = some oe) (z : Zc cls d oe) (f : oe.data = .fields vs) : ObjOk P w H h a (Ke cls d a) :=
  ⟨⟨oe, vs, e, z, f⟩, ⟨oe, e⟩, fun _ _ ⟨o, ws, e1, z1, f1⟩ k => ⟨o, ws, k o e1, z1, f1⟩⟩
theorem ke_at {P : Program} {w : World} {H : Hp} {h : Heap} {a : Addr} {cls : Value} {d : Option Addr} (hok : HOk P w H h) (e : H a = some (Ke cls d a)) : ∃ (oe : Obj) (vs : Array Value), h.get? a = some oe ∧ Zc cls d oe ∧ oe.data = .fields vs := (show ObjOk P w H h a (Ke cls d a) from hok a _ e).1
section
variable {X : Cx} {pins : List (Addr × Obj)} {σ : L2.St} {H : Hp} {s : Shared} {a : Addr}
/-- what is new since the def began, and stands nowhere, may be told -/
theorem inv_tell {o : HO} (I : Inv X pins σ H s) (na : H a = none) (n0 : X.s_0.heap.get? a = none) (nL : a ≠ X.env.locals) (nC : ∀ v, ¬ s.heap.IsCell a v) (nP : ∀ p ∈ X.pn ++ pins, p.1 ≠ a) (ho : ObjOk X.prog X.w (upd H a o) s.heap a o) :
    Inv X pins σ (upd H a o) s := by
  have ne : ∀ {b : Addr} {u : HO}, H b = some u → b ≠ a := fun e => ne_of_none e na
  refine ⟨I.ok, I.os, I.bare, ?_, I.loc, I.cell, ?_, ?_, ?_, ?_, I.len⟩
  · refine ⟨I.base.keep, I.base.slot, fun b ob e n hx => ?_, I.base.there, fun b xs e => ?_, fun b ob u e => ?_, fun b ps e => ?_⟩
    · have nb : b ≠ a := fun z => by
        rw [z, n0] at e
        cases e
      rw [upd_ne nb]
      exact I.base.free b ob e n hx
    · have t := I.base.tups b xs e
      rw [upd_ne (ne t)]
      exact t
    · have t := I.base.frzs b ob u e
      rw [upd_ne (ne t)]
      exact t
    · obtain ⟨m, t⟩ := I.base.tbls b ps e
      exact ⟨m, by rw [upd_ne (ne t)]; exact t⟩
  · rw [upd_ne (Ne.symm nL)]
    exact I.free
  · intro y c hc
    have nc : c ≠ a := fun z => by
      obtain ⟨v, hv⟩ := I.cell y c hc
      exact nC v (z ▸ hv)
    rw [upd_ne nc]
    exact I.freeC y c hc
  · intro p hp
    obtain ⟨p1, p2, p3⟩ := I.pin p hp
    exact ⟨p1, by rw [upd_ne (nP p hp)]; exact p2, p3⟩
  · intro b u e
    by_cases hb : b = a
    · subst hb
      rw [upd_same] at e
      cases e
      exact ho
    · rw [upd_ne hb] at e
      exact (I.hok b u e).stay (fun c v _ q => q) (fun c q => by rw [upd_ne (ne q)]; exact q) fun c xs q => by rw [upd_ne (ne q)]; exact q
end
/-- what such a clause wishes of an error of the body: slot i is the name of the clause -/
def wKept (K : PySem.W.Frag) (c : Value) (i : Nat) (ts : Addr → Value → Option Addr → TS) (D : Ends) : WX := fun cls d σ H =>
  PySem.W.exmOne K cls c = some true ∧ ∀ a, H a = none → ts a cls d { nx := fun σ' H' => D.nx (σ'.set i none) (upd H' a (Ke cls d a)), rt := fun v H' => D.rt v (upd H' a (Ke cls d a)), bk := fun σ' H' => D.bk (σ'.set i none) (upd H' a (Ke cls d a)), ct := fun σ' H' => D.ct (σ'.set i none) (upd H' a (Ke cls d a)) } (σ.set i (some (.ref a))) H
section
variable {X : Cx} {nm : Str} {c : Value} {i : Nat} {x : Str} {body su : List Stmt} {b1 : Stmt} {px p1 p2 : Pos} {tb : WX → TS} {ts : Addr → Value → Option Addr → TS}
/-- try: .. except C as n: .., where the body lets out nothing but errors of C: what is caught is told in the heap behind the clause -/
theorem ps_try_kept (st : X.stack = X.env :: X.outer) (fl : X.env.frame = some X.env.locals) (x0 : X.ex = []) (nd : X.N.Nodup) (at_ : X.N[i]? = some nm) (lc : X.env.kindOf nm = some .local) (cn : Names X x c)
    (tbd : ∀ (W : WX) (pn : List (Addr × Obj)) (xe : Value → Shared → Prop), Takes (X.tr pn xe) W → PassesOwn (model X.prog X.w) X.A X.env xe → PSs (X.tr pn xe) body (tb W))
    (tsu : ∀ (a : Addr) (oe : Obj) (cls : Value) (d : Option Addr) (pn : List (Addr × Obj)), Zc cls d oe → (∃ vs, oe.data = .fields vs) → PSs (X.suite a ((a, oe) :: pn)) (b1 :: su) (ts a cls d)) :
    PS X (.Try body [.ExceptHandler (some (.Name x px)) (some nm) (b1 :: su) p1] [] [] p2) (fun D σ H => tb (wKept X.K c i ts D) D σ H) := by
  refine ⟨fun pins s σ H D I h => wpAny_Try_except ?_⟩
  have ok := I.ok
  have fr : X.A.frames = some (X.env :: X.outer) := by rw [ok.frames, st]
  refine wpAny_mono ((tbd (wKept X.K c i ts D) (X.pn ++ pins) _ ?take PassesOwn.looking).run [] s σ H D (I.toTry _) h) (fun f s1 r => ?done) (fun e s1 r => r)
  case done =>
    cases f with
    | next =>
      obtain ⟨σ1, H1, J, r⟩ := r
      exact wpAny_execs_nil ⟨σ1, H1, J.ofTry ok, r⟩
    | ret u =>
      obtain ⟨v, σ1, H1, J, e, r⟩ := r
      exact ⟨v, σ1, H1, J.ofTry ok, e, r⟩
    | brk =>
      obtain ⟨σ1, H1, J, r⟩ := r
      exact ⟨σ1, H1, J.ofTry ok, r⟩
    | cont =>
      obtain ⟨σ1, H1, J, r⟩ := r
      exact ⟨σ1, H1, J.ofTry ok, r⟩
  case take =>
    rintro u s1 ⟨a, B, s0, ps, σ1, H1, cls, d, rfl, J0, inB, up, sky, na, os, ag, mt, yes⟩
    have J := J0.ofTry (pn' := ps) ok
    have sky1 : Sky B (X.env :: X.outer) a (Zc cls d) X.env.locals s1.heap := st ▸ sky
    have notB : B.get? a = none := by
      rcases sky1 with k | k | k
      · exact k.2.1
      · exact k.2.1
      · exact k.2.1
    refine Sky.land Zc.steady fr fl sky1 fun h2 f2 up2 => ?_
    have J2 : Inv X pins σ1 H1 { s1 with heap := h2 } := J.landed inB f2.1 (up.trans up2) os ag
    obtain ⟨o2, w2, e2, z2, d2⟩ := f2.there
    have out : a ∉ frs (X.env :: X.outer) := fun hm => by
      obtain ⟨_, o, eo, no⟩ := f2.2.2.1.mem hm
      rw [e2] at eo
      cases eo
      exact no _ d2
    have nL : a ≠ X.env.locals := fun z => out (List.mem_filterMap.mpr ⟨X.env, List.mem_cons_self, by rw [fl, z]⟩)
    have nF : a ∉ X.fs := fun hm => by
      obtain ⟨e, he, q⟩ := List.mem_filterMap.mp hm
      exact out (List.mem_filterMap.mpr ⟨e, List.mem_cons_of_mem _ he, q⟩)
    have gone : ∀ {b : Addr} {o : Obj}, s0.heap.get? b = some o → b ∉ frs X.stack → b ≠ a := fun e n z => by
      have q := inB _ _ e n
      rw [z, notB] at q
      cases q
    have outS : a ∉ frs X.stack := st ▸ out
    have new0 : X.s_0.heap.get? a = none := by
      cases e : X.s_0.heap.get? a with
      | none => rfl
      | some o =>
        obtain ⟨o', e'⟩ := J.base.there a o e (by rw [x0]; exact fun z => nomatch z)
        exact absurd rfl (gone e' outS)
    have nP : ∀ p ∈ X.pn ++ pins, p.1 ≠ a := fun p hp => by
      obtain ⟨g1, _, g3, g4, _⟩ := J.pin p hp
      refine gone g1 fun hm => ?_
      rw [st] at hm
      obtain ⟨e, he, q⟩ := List.mem_filterMap.mp hm
      rcases List.mem_cons.mp he with rfl | he
      · rw [fl] at q
        exact g3 (Option.some.inj q).symm
      · exact g4 (List.mem_filterMap.mpr ⟨e, he, q⟩)
    have S2 := J2.suite e2 d2 na nL nF
    have isC : PySem.W.Looks (model X.prog X.w) h2 (typeOf (.ref a)) cls := fun A Q E s k q => wpAny_typeOf_ref (k _ _ e2) (by rw [z2.1]; exact q)
    have asks := PySem.W.exm_one (M := model X.prog X.w) J2.kIn isC mt
    have named : ∀ {Q : Value → Shared → Prop} {E : Value → Shared → Prop}, Q c { s1 with heap := h2 } → wpAny (model X.prog X.w) (X.A.mark (some (.ref a))) (eval (.Name x px) X.env) Q E { s1 with heap := h2 } := fun q => by
      rcases cn with ⟨g1, g2, g3 | ⟨g3, g4, g5⟩⟩
      · exact ld_glob (X := X.suite a ((a, o2) :: (X.pn ++ pins))) S2 g1 g3 q g2
      · exact ld_blt (X := X.suite a ((a, o2) :: (X.pn ++ pins))) S2 g1 g3 g4 q g5 g2
    refine wpAny_handleBy_cons (codeAny_handlers_test (named (asks.here ?_))) fun q => nomatch q
    refine codeAny_handlers_suite_as (HandSPX.lands_againZ f2 fun h3 f3 up3 => ?_)
    have J3 : Inv X pins σ1 H1 { s1 with heap := h3 } := J.landed inB f3.1 ((up.trans up2).trans up3) os ag
    obtain ⟨o3, w3, e3, z3, d3⟩ := f3.there
    refine store_ok (X := X.suite a ((a, o3) :: (X.pn ++ pins))) (v := .ref a) (J3.suite e3 d3 na nL nF) nd at_ (.inl lc) rfl (fun s4 S4 => ?_) (.inr lc)
    refine wpAny_mono ((tsu a o3 cls d (X.pn ++ pins) z3 ⟨_, d3⟩).run [] s4 _ H1 _ S4 (yes a na)) (fun f s5 r => ?_) (fun _ _ z => False.elim z)
    have close : ∀ {σ5 : L2.St} {H5 : Hp} {Q : Shared → Prop}, Inv (X.suite a ((a, o3) :: (X.pn ++ pins))) [] σ5 H5 s5 → (∀ s6, Inv X pins (σ5.set i none) (upd H5 a (Ke cls d a)) s6 → Q s6) →
        wpAny (model X.prog X.w) X.A (do bindName X.env nm .none; unbindBehindTheSuite X.env nm p1) (fun _ s6 => Q s6) X.xe s5 := fun {σ5 H5 Q} S5 q => by
      obtain ⟨g1, g2, _⟩ := S5.pin (a, o3) (List.mem_append_left _ List.mem_cons_self)
      have g1 : s5.heap.get? a = some o3 := g1
      refine gone_ok (inv_tell (S5.unsuite ok) g2 new0 nL (fun v hv => ?_) nP (ke_ok g1 z3 d3)) nd at_ lc q
      obtain ⟨o, ho, hd⟩ := hv
      rw [g1] at ho
      cases ho
      rw [d3] at hd
      cases hd
    cases f with
    | next =>
      obtain ⟨σ5, H5, S5, r⟩ := r
      exact close S5 fun s6 J6 => ⟨_, _, J6, r⟩
    | ret u =>
      obtain ⟨v, σ5, H5, S5, e, r⟩ := r
      exact close S5 fun s6 J6 => ⟨_, _, _, J6, e, r⟩
    | brk =>
      obtain ⟨σ5, H5, S5, r⟩ := r
      exact close S5 fun s6 J6 => ⟨_, _, J6, r⟩
    | cont =>
      obtain ⟨σ5, H5, S5, r⟩ := r
      exact close S5 fun s6 J6 => ⟨_, _, J6, r⟩
end
/-- an error that is told, with its fields -/
def KeptAt (H : Hp) (a D dd : Addr) (fs : List (Str × V)) : Prop := H a = some (Ke (.ref D) (some dd) a) ∧ H dd = some (.xd fs)
theorem kept_same {H H' : Hp} {a D dd : Addr} {fs : List (Str × V)} (s : Same H H') (h : KeptAt H a D dd fs) : KeptAt H' a D dd fs := ⟨s _ _ h.1, s _ _ h.2⟩
theorem kept_inst {P : Program} {w : World} {H : Hp} {h : Heap} {a D dd : Addr} {fs : List (Str × V)} (hok : HOk P w H h) (k : KeptAt H a D dd fs) :
    ∃ (oe od : Obj) (mA : Str → Option Value), PySem.W.InstAt h a oe D (some od) ∧ h.Ns1 dd mA ∧ (∀ f, RelO (fs.lookup f) (mA f)) ∧ ∀ f, PySem.W.lookIn f od = some (mA f) := by
  obtain ⟨oe, vs, e1, z1, f1⟩ := ke_at hok k.1
  have x : ObjOk P w H h dd (.xd fs) := hok dd _ k.2
  obtain ⟨mA, hns, hr⟩ := x
  obtain ⟨od, ho, hl⟩ := lookIn_ns hns
  refine ⟨oe, od, mA, ⟨e1, z1.1, ?_, ?_⟩, hns, hr, fun f => ?_⟩
  · unfold PySem.W.notCls
    rw [f1] <;> rfl
  · rw [z1.2]
    exact ho
  · exact hl f
/-- e.f of such an error -/
def tKf (K : PySem.W.Frag) (f : Str) (te : TE) : TE := fun σ H Q => te σ H fun x H1 => ∃ (a D dd : Addr) (fs : List (Str × V)) (v : V), x = .ref a ∧ XfC K D ∧ PySem.W.findIn K (.ref D) f = some none ∧ KeptAt H1 a D dd fs ∧ fs.lookup f = some v ∧ Q v H1
theorem pe_kf {X : Cx} {e : Expr} {te : TE} {pos : Pos} {f : Str} (he : PE X e te) (hb : attributeBase e f X.env (eval e X.env) = eval e X.env := by rfl) : PE X (.Attribute e f pos) (tKf X.K f te) := by
  refine ⟨fun pins s σ H Q I h => attr_of hb (thn (he.run pins s σ H _ I h) fun u s1 k => ?_)⟩
  obtain ⟨x, H1, I1, rx, a, D, dd, fs, v, rfl, T, no, ka, l, q⟩ := k
  cases rx
  obtain ⟨oe, od, mA, J, hns, hr, hl⟩ := kept_inst I1.hok ka
  obtain ⟨u, hu, ru⟩ := RelO.some_of (v := v) (o := mA f) (by rw [← l]; exact hr f)
  exact HandSPX.exc_get I1.kIn J T.ga T.gg T.exC (PySem.W.findObj_own T.hdC no rfl (by rw [hl, hu])) (handed_of ru) ⟨v, H1, I1.tok _, ru, q⟩
/-- isinstance(e, c) of such an error -/
def rIsK (K : PySem.W.Frag) : List V → Hp → VK → Prop := fun xs H Q => ∃ (a D dd : Addr) (fs : List (Str × V)) (c : V) (cv : Value) (b : Bool), xs = [.ref a, c] ∧ ExcC K D ∧ KeptAt H a D dd fs ∧ (∀ u, RelV c u → u = cv) ∧ PySem.W.kitOne K (.ref D) cv = some b ∧ Q (.bl b) H
theorem call_isK {X : Cx} : CallR X (.builtin "isinstance") (rIsK X.K) := by
  intro pins s σ H xs us Q I r h
  obtain ⟨a, D, dd, fs, c, cv, b, rfl, C, ka, hcv, e, q⟩ := h
  obtain ⟨oe, od, mA, J, _⟩ := kept_inst I.hok ka
  cases r with
  | cons rx rr => cases rr with
    | cons rt rr =>
      cases rr
      cases rx
      cases hcv _ rt
      obtain ⟨cd, hc, _⟩ := PySem.W.any_some C.hd
      exact PySem.W.kia_one (PySem.W.kitx_exc (by rw [hc]; rfl) C.hg C.hk C.hs C.ha C.hn C.ht C.hm) I.kIn J e (fun z => nomatch z) fun tk => ⟨.bl b, H, I.kept (t' := tk) fun _ _ z => z, rfl, q⟩
end Nb

set_option Elab.async false
set_option maxRecDepth 100000
set_option maxHeartbeats 4000000
/-! An own error that is made and held as a value, not raised: told in the heap at once. -/
namespace Nb
open PySem PySem.Spec PyProof.Rows L2
/-- what the making of an error wishes, where the error is a value -/
def tKept (t : L2.St → Hp → XK → Prop) : TE := fun σ H Q => t σ H fun cls d H' => ∀ a, H' a = none → Q (.ref a) (upd H' a (Ke cls d a))
theorem pe_kept {X : Cx} {e : Expr} {t : L2.St → Hp → XK → Prop} (x0 : X.ex = []) (st : X.stack = X.env :: X.outer) (fl : X.env.frame = some X.env.locals) (he : PMk X e t) : PE X e (tKept t) := by
  refine ⟨fun pins s σ H Q I h => wpAny_mono (he pins s σ H _ I h) (fun u s1 r => ?_) fun _ _ z => z⟩
  obtain ⟨a, oe, vs, s0, H1, cls, d, rfl, J, k, na0, ea, zc, dv, _, na, os, ag, _, q⟩ := r
  have ok := J.ok
  have J1 : Inv X pins σ H1 s1 := by
    have J2 := J.call (ch := []) (h' := s1.heap) (g' := s1.gens) (t' := s1.toks) (d' := s1.drawn) (H' := H1)
      ⟨fun b o e _ _ _ => k b o e, fun b o e _ _ _ => ⟨o.slots, k b o e⟩, fun _ _ _ n _ => n, fun b o e _ => ⟨o, k b o e⟩, fun _ _ e => e, fun _ _ _ e => e, fun b ps e => ⟨#[], by rw [e]; simp⟩⟩ (J.hok.kept k) ag (fun _ z => nomatch z)
    obtain ⟨a1, a2, a3, a4, a5⟩ := s1
    cases (show a5 = s0.os from os)
    exact J2
  have gone : ∀ {b : Addr} {o : Obj}, s0.heap.get? b = some o → b ≠ a := fun e z => by
    rw [z, na0] at e
    cases e
  have n0 : X.s_0.heap.get? a = none := by
    cases e : X.s_0.heap.get? a with
    | none => rfl
    | some o =>
      obtain ⟨o', e'⟩ := J.base.there a o e (by rw [x0]; exact fun z => nomatch z)
      exact absurd rfl (gone e')
  have nL : a ≠ X.env.locals := fun z => by
    obtain ⟨m, hn, _⟩ := J.loc
    obtain ⟨o, _, _, e, _⟩ := hn
    exact gone e z.symm
  refine ⟨.ref a, upd H1 a (Ke cls d a), inv_tell J1 na n0 nL (fun v hv => ?_) (fun p hp => gone (J.pin p hp).1) (ke_ok ea zc dv), rfl, q a na⟩
  obtain ⟨o, ho, hd⟩ := hv
  rw [ea] at ho
  cases ho
  rw [dv] at hd
  cases hd
end Nb

set_option Elab.async false
set_option maxRecDepth 100000
set_option maxHeartbeats 4000000
/-! Own errors over any of four built-in classes, whose __init__ stores its arguments under their names. -/
namespace Nb
open PySem PySem.Spec PyProof.Rows Builtin.ObjectAttr
open L2 hiding del del_ne del_same
/-- the built-in class below -/
structure Over (B nw ini : String) (bm : List Value) : Prop where
  fb : ExcBaseFacts B nw ini bm
  sf : StoreFacts B bm "object.__setattr__" "object"
theorem overV : Over "ValueError" "ValueError.__new__" "ValueError.__init__" [.type "ValueError", .type "Exception", .type "BaseException", .type "object"] := ⟨F.excBase_ValueError, F.store_ValueError⟩
theorem overA : Over "ArithmeticError" "ArithmeticError.__new__" "ArithmeticError.__init__" [.type "ArithmeticError", .type "Exception", .type "BaseException", .type "object"] := ⟨F.excBase_ArithmeticError, F.store_ArithmeticError⟩
theorem overL : Over "LookupError" "LookupError.__new__" "LookupError.__init__" [.type "LookupError", .type "Exception", .type "BaseException", .type "object"] := ⟨F.excBase_LookupError, F.store_LookupError⟩
theorem overR : Over "RuntimeError" "RuntimeError.__new__" "RuntimeError.__init__" [.type "RuntimeError", .type "Exception", .type "BaseException", .type "object"] := ⟨F.excBase_RuntimeError, F.store_RuntimeError⟩
/-- what the written part says of an own error class -/
structure ErrC (K : PySem.W.Frag) (C : Addr) : Prop where
  ov : ∃ B nw ini bm, Over B nw ini bm ∧ PySem.W.excInitIn K C bm nw = true ∧ PySem.W.excOver K C bm = true
  sa : PySem.W.findIn K (.ref C) "__setattr__" = some (some (.builtin "object.__setattr__"))
  tyC : PySem.W.typeIn K (.ref C) = some (.type "type")
  kC : PySem.W.keepIn K (.ref C) = true
  ex : ExcC K C
theorem taker_of {K : PySem.W.Frag} {C : Addr} {f : Str} (h : PySem.W.findIn K (.ref C) f = some none) : PySem.W.takerIn K C f = some none := by
  unfold PySem.W.takerIn
  rw [h]
  rfl
section
variable {X : Cx} {pins : List (Addr × Obj)} {σ : L2.St} {H : Hp} {s : Shared} {a C d : Addr} {f : Str} {y : V} {u : Value} {fs : List (Str × V)} {Q : Unit → Shared → Prop} {E : Value → Shared → Prop} {A : Around}
theorem put_first (T : ErrC X.K C) (I : Inv X pins σ H s) (e : H a = some (exo a C none)) (hno : PySem.W.findIn X.K (.ref C) f = some none) (ry : RelV y u)
    (h : ∀ d s', H d = none → d ≠ a → Inv X pins σ (upd (upd (upd H d (exd d [])) a (exo a C (some d))) d (exd d [(f, y)])) s' → Q () s') : wpAny (model X.prog X.w) A (setAttr (.ref a) f u) Q E s := by
  obtain ⟨t1, ho⟩ := exo_at I.hok e
  obtain ⟨B, nw, ini, bm, ov, q1, q2⟩ := T.ov
  obtain ⟨cd, hc, hd⟩ := PySem.W.any_some T.ex.hd
  obtain ⟨hp, g, dr, t, os⟩ := s
  have la : a < hp.objs.size := Heap.lt_size ho
  refine PySem.W.set_plain (od := none) I.kIn ⟨ho, rfl, rfl, trivial⟩ T.sa ?_
  refine PySem.W.osa_openX (od := none) ov.sf I.kIn ⟨ho, rfl, rfl, trivial⟩ q2 (taker_of hno) fun b => ?_
  refine wpAny_bind (wpAny_pure (wpAny_bind (PySem.W.instanceDict_exc (c2 := .none) ho (PySem.W.looks_clsIn I.kIn hc) hd ?_)))
  have sz : hp.objs.size ≠ a := Nat.ne_of_gt la
  have e1 : (hp.push (PySem.W.dictOf [] 0)).get? hp.objs.size = some (PySem.W.dictOf [] 0) := Heap.get?_push_at rfl rfl
  have n1 : (hp.push (PySem.W.dictOf [] 0)).Ns hp.objs.size (fun _ => none) := ⟨_, #[], _, e1, rfl, fun e he => absurd he (by simp), fun _ => rfl⟩
  have I1 := I.laid (t' := t) (a := hp.objs.size) (o := exd hp.objs.size []) (h' := hp.push (PySem.W.dictOf [] 0)) (fun b o q => Heap.get?_push_of_some _ q) (Nat.le_refl _) (exd_ok (Heap.Ns1.of_empty n1) fun _ => True.intro)
  have h1 : (hp.push (PySem.W.dictOf [] 0)).get? a = some ({ cls := .ref C, data := .fields #[.ref t1, .none, .none, .none, .bool false, .none] } : Obj) := Heap.get?_push_of_some _ ho
  have I2 := I1.write (t' := t) (x := a) (e := a) (o := exo a C (some hp.objs.size)) (h' := (hp.push (PySem.W.dictOf [] 0)).update a fun o => { o with dict := some hp.objs.size }) (by rw [upd_ne (Ne.symm sz), e]; exact True.intro) (.inl rfl)
    (fun b o hb q => (Heap.get?_update_ne _ _ _ _ hb).trans q) ⟨_, Heap.get?_update_self _ h1 rfl⟩ (exo_ok (Heap.get?_update_self _ h1 rfl))
  have n2 : ((hp.push (PySem.W.dictOf [] 0)).update a fun o => { o with dict := some hp.objs.size }).Ns hp.objs.size (fun _ => none) :=
    ⟨_, #[], _, (Heap.get?_update_ne _ _ _ _ sz).trans e1, rfl, fun e he => absurd he (by simp), fun _ => rfl⟩
  show wpAny _ _ (storeInDict hp.objs.size (.str f _) f u) _ _ _
  refine PySem.HandSPX.store_in_new n2 fun h' tk' hn' hs => ?_
  have at2 : upd (upd H hp.objs.size (exd hp.objs.size [])) a (exo a C (some hp.objs.size)) hp.objs.size = some (exd hp.objs.size []) := by rw [upd_ne sz, upd_same]
  have hd2 : ∃ o, h'.get? hp.objs.size = some o := by
    obtain ⟨o, _, _, e', _⟩ := hn'
    exact ⟨o, e'⟩
  exact h _ _ (I.hok.fresh (Nat.le_refl _)) sz (I2.write (t' := tk') (x := hp.objs.size) (e := hp.objs.size) (o := exd hp.objs.size [(f, y)]) (by rw [at2]; exact True.intro) (.inl rfl) (fun b o hb q => (hs.2 b hb).trans q) hd2
    (exd_ok hn' (relO_put (fs := []) ry fun _ => True.intro)))
theorem put_more (T : ErrC X.K C) (I : Inv X pins σ H s) (e : H a = some (exo a C (some d))) (ed : H d = some (exd d fs)) (hl : fs.length ≤ 900) (hno : PySem.W.findIn X.K (.ref C) f = some none) (ry : RelV y u)
    (h : ∀ s', Inv X pins σ (upd H d (exd d ((f, y) :: fs))) s' → Q () s') : wpAny (model X.prog X.w) A (setAttr (.ref a) f u) Q E s := by
  obtain ⟨t1, ho⟩ := exo_at I.hok e
  obtain ⟨mA, hns, rel⟩ := exd_at I.hok ed
  have hw := within_of rel
  obtain ⟨B, nw, ini, bm, ov, q1, q2⟩ := T.ov
  obtain ⟨cd, hc, hd⟩ := PySem.W.any_some T.ex.hd
  obtain ⟨hp, g, dr, t, os⟩ := s
  obtain ⟨oD, _, _, hoD, _, _⟩ := hns.count hw
  refine PySem.W.set_plain (od := some oD) I.kIn ⟨ho, rfl, rfl, hoD⟩ T.sa ?_
  refine PySem.W.osa_openX (od := some oD) ov.sf I.kIn ⟨ho, rfl, rfl, hoD⟩ q2 (taker_of hno) fun b => ?_
  refine wpAny_bind (wpAny_pure (wpAny_bind (wpAny_bind (wpAny_loadPart ho (wpAny_bind ((PySem.W.looks_clsIn I.kIn hc).at ?_))))))
  rw [hd]
  refine wpAny_pure (a := some d) ?_
  refine PySem.OEX.store_in_old hns hw (by rw [List.length_map]; omega) fun h' tk' hn' hs => ?_
  have hd2 : ∃ o, h'.get? d = some o := by
    obtain ⟨o, _, _, e', _⟩ := hn'
    exact ⟨o, e'⟩
  exact h _ (I.write (t' := tk') (x := d) (e := d) (o := exd d ((f, y) :: fs)) (by rw [ed]; exact True.intro) (.inl rfl) (fun b o hb q => (hs.2 b hb).trans q) hd2 (exd_ok hn' (relO_put ry rel)))
end
/-- H is H0 and, at a, an error of C that is being made, with the fields fs -/
def Mkg (H0 H : Hp) (a C : Addr) (fs : List (Str × V)) : Prop := H0 a = none ∧ ((fs = [] ∧ H = upd H0 a (exo a C none)) ∨ ∃ d, H0 d = none ∧ d ≠ a ∧ H = upd (upd H0 d (exd d fs)) a (exo a C (some d)))
def tPut (K : PySem.W.Frag) (f : Str) (to te : TE) : TS := fun D σ H => te σ H fun y H1 => to σ H1 fun x H2 => ∃ (a C : Addr) (H0 : Hp) (fs : List (Str × V)), x = .ref a ∧ ErrC K C ∧ PySem.W.findIn K (.ref C) f = some none ∧ fs.length ≤ 900 ∧ Mkg H0 H2 a C fs ∧ ∀ H3, Mkg H0 H3 a C ((f, y) :: fs) → D.nx σ H3
theorem ps_put {X : Cx} {o e : Expr} {to te : TE} {f : Str} {p' pos : Pos} (ho : PE X o to) (he : PE X e te) (hs : swapsWith e (some (.Attribute o f p')) pos.line X.env = pure false := by rfl) : PS X (.Assign [.Attribute o f p'] e pos) (tPut X.K f to te) := by
  refine ⟨fun pins s σ H D I h => ?_⟩
  refine plainObj_wpAny_Assign_Attribute (thn (he.run pins s σ H _ I h) fun v s1 ⟨y, H1, I1, r1, q1⟩ => thn (ho.run pins s1 σ H1 _ I1 q1) fun u s2 ⟨x, H2, I2, r2, a, C, H0, fs, ex, T, hno, hl, mk, q⟩ => ?_) hs
  subst ex
  cases (show u = Value.ref a from r2)
  obtain ⟨na, ⟨rfl, rfl⟩ | ⟨d, nd, ne, rfl⟩⟩ := mk
  · refine put_first T I2 upd_same hno r1 fun d s' n ne J => ⟨σ, _, J, q _ ⟨na, .inr ⟨d, ?_, ne, ?_⟩⟩⟩
    · rw [upd_ne ne] at n
      exact n
    · funext b
      by_cases h1 : b = d
      · subst h1
        rw [upd_same, upd_ne ne, upd_same]
      · rw [upd_ne h1]
        by_cases h2 : b = a
        · subst h2
          rw [upd_same, upd_same]
        · rw [upd_ne h2, upd_ne h1, upd_ne h2, upd_ne h2, upd_ne h1]
  · refine put_more T I2 upd_same (by rw [upd_ne ne, upd_same]) hl hno r1 fun s' J => ⟨σ, _, J, q _ ⟨na, .inr ⟨d, nd, ne, ?_⟩⟩⟩
    funext b
    by_cases h1 : b = d
    · subst h1
      rw [upd_same, upd_ne ne, upd_same]
    · rw [upd_ne h1]
      by_cases h2 : b = a
      · subst h2
        rw [upd_same, upd_same]
      · rw [upd_ne h2, upd_ne h2, upd_ne h1, upd_ne h1]
/-- __init__ of such a class: the fields are its parameters behind self -/
def spMk (K : PySem.W.Frag) (fs : List Str) : Sp := fun vs H Q _ => ∃ (a C : Addr) (H0 : Hp) (ws : List V), vs = .ref a :: ws ∧ ws.length = fs.length ∧ ErrC K C ∧ (∀ f ∈ fs, PySem.W.findIn K (.ref C) f = some none) ∧ Mkg H0 H a C [] ∧
  ∀ H', Mkg H0 H' a C (fs.zip ws).reverse → Q .non H'
/-- an error of C(e, ..), made: a dict with its fields is left -/
def tMkE0 (C : Addr) (fs : List Str) (ta : TA) : L2.St → Hp → XK → Prop := fun σ H Q => ∃ R : List V → Hp → Prop, ta σ H R ∧ ∀ vs H1, R vs H1 → vs.length = fs.length ∧ ∀ d, H1 d = none → Q (.ref C) (some d) (upd H1 d (.xd (fs.zip vs).reverse))
def tMkE (C : Addr) (fs : List Str) (ta : TA) : L2.St → Hp → XK → Prop := fun σ H Q => ta σ H fun vs H1 => vs.length = fs.length ∧ ∀ d, H1 d = none → Q (.ref C) (some d) (upd H1 d (.xd (fs.zip vs).reverse))
/-- all that is known of an own error class -/
structure Er (P : Program) (w : World) (K : PySem.W.Frag) (mg : Str → Option Value) (base : Heap) (x : Str) (C : Addr) (fs : List Str) : Prop where
  T : ErrC K C
  g : mg x = some (.ref C)
  no : ∀ f ∈ fs, PySem.W.findIn K (.ref C) f = some none
  len : fs.length ≤ 900
  pos : 1 ≤ fs.length
  ini : ∃ (fI : Addr) (fd : FuncData), PySem.W.findIn K (.ref C) "__init__" = some (some (.ref fI)) ∧ PySem.W.typeIn K (.ref fI) = some (.type "function") ∧ Binds K fd ("self" :: fs) [] ∧ FnOk P w K mg base CX0 1 fI fd ("self" :: fs) (spMk K fs)
section
variable {X : Cx} {x : Str} {C : Addr} {fs : List Str} {e : Expr} {es : List Expr} {ta : TA} {p pos : Pos}
theorem pmk_err0 (R : Er X.prog X.w X.K X.mg X.base x C fs) (hr : Room 2 X.A) (hg : Gl X x) (ha : PA X (e :: es) ta)
    (hdb : (x == ("__debug__" : Str)) = false := by decide) (he : starEach (e :: es) X.env = (false, eval e X.env) :: starEach es X.env := by rfl) (hpl : (backTo pos (starEach es X.env)).any (·.1) = false := by rfl) :
    PMk X (.Call (.Name x p) (e :: es) [] pos) (tMkE0 C fs ta) := by
  intro pins s σ H Q I ⟨R0, h, imp⟩
  obtain ⟨B, nw, ini, bm, ov, q1, _⟩ := R.T.ov
  obtain ⟨fI, fd, iC, tI, hb, F1⟩ := R.ini
  refine wpAny_Call_Name_kw (ld_glob I hg R.g ?_ hdb)
  refine PySem.W.callWith_K (h₀ := X.base) I.ok.mod.kin R.T.kC (thn (ha.run pos pins s σ H _ I h) fun us s1 ⟨vs, H1, I1, r1, q0⟩ => ⟨I1.kIn, ?_⟩) he hpl
  show wpAny _ _ (call (.ref C) us) _ _ _
  obtain ⟨hz, qf⟩ := imp vs H1 q0
  obtain ⟨hp, g, dr, tk, os⟩ := s1
  obtain ⟨nm, N, qn, bs, bm', hdct, sn, sub, ab, col, dd, k0, k1, k2, k3, k5, hC, hT⟩ := PySem.W.excInit_of I1.kIn q1
  have up1 : hp.objs.size ≤ hp.objs.size + 1 := Nat.le_succ _
  have hn : H1 (hp.objs.size + 1) = none := I1.hok.fresh up1
  have kk : ∀ b o, hp.get? b = some o → ((hp.push (PySem.W.kdv_tup us)).push (PySem.HandSPX.excO C hp.objs.size)).get? b = some o := fun b o e => Heap.get?_push_of_some _ (Heap.get?_push_of_some _ e)
  have ge : ((hp.push (PySem.W.kdv_tup us)).push (PySem.HandSPX.excO C hp.objs.size)).get? (hp.objs.size + 1) = some (PySem.HandSPX.excO C hp.objs.size) := by heap_get
  have I2 : Inv X pins σ (upd H1 (hp.objs.size + 1) (exo (hp.objs.size + 1) C none)) ⟨(hp.push (PySem.W.kdv_tup us)).push (PySem.HandSPX.excO C hp.objs.size), g, dr, tk, os⟩ :=
    I1.laid (t' := tk) (a := hp.objs.size + 1) (o := exo (hp.objs.size + 1) C none) (h' := (hp.push (PySem.W.kdv_tup us)).push (PySem.HandSPX.excO C hp.objs.size)) kk up1 (exo_ok ge)
  have r2 : Vals (V.ref (hp.objs.size + 1) :: vs) (Value.ref (hp.objs.size + 1) :: us) := .cons rfl r1
  have zl : us.length = fs.length := by rw [← Paired.length r1, hz]
  have hus : us.length ≤ sizeLine := by
    rw [zl, sizeLine_eq]
    exact Nat.le_trans R.len (by decide)
  refine wpAny_call (PySem.HandSPX.call_own ov.fb hT hC (PySem.W.looks_findIn I1.kIn iC) (fun self => PySem.W.bind_fn I1.kIn self tI) hus
    (codeAny_mono (F1.run _ X.stack _ _ ⟨Value.ref (hp.objs.size + 1) :: us, []⟩ (Value.ref (hp.objs.size + 1) :: us)
      (Q := fun v H2 => v = .non ∧ Mkg H1 H2 (hp.objs.size + 1) C (fs.zip vs).reverse) _ (fun _ _ _ => False) (hr.make C us []) (I2.env0.make C us [])
      (by simpa using hb _ (Value.ref (hp.objs.size + 1) :: us) I2.kIn (by rw [List.length_append, List.length_cons, zl]; rfl)) r2 ⟨_, C, H1, vs, rfl, hz, R.T, R.no, ⟨hn, .inl ⟨rfl, rfl⟩⟩, fun H' m => ⟨rfl, m⟩⟩) fun r s' hq' => ?_))
  cases r with
  | error er => exact False.elim hq'
  | ok fl =>
    cases fl with
    | ret u =>
      obtain ⟨v, H2, os2, bare2, un2, hok2, rv, ev, na, mk⟩ := hq'
      subst ev
      obtain ⟨h2, g2, d2, t2, os'⟩ := s'
      refine ⟨rv, ?_⟩
      rcases mk with ⟨mk, _⟩ | ⟨d, nd, ne, rfl⟩
      · have l0 := congrArg List.length mk
        rw [List.length_reverse, List.length_zip, ← hz, Nat.min_self, hz, List.length_nil] at l0
        have := R.pos
        omega
      · refine mk_end (raises_own R.T.ex.hs R.T.tyC) I1 up1 kk un2 hok2 os2 bare2 upd_same (by rw [upd_ne ne, upd_same]) nd ?_
        have e : upd (L2.del (upd (upd H1 d (exd d (fs.zip vs).reverse)) (hp.objs.size + 1) (exo (hp.objs.size + 1) C (some d))) (hp.objs.size + 1)) d (.xd (fs.zip vs).reverse) = upd H1 d (.xd (fs.zip vs).reverse) := by
          funext b
          by_cases h1 : b = d
          · rw [h1, upd_same, upd_same]
          · rw [upd_ne h1, upd_ne h1]
            by_cases h2 : b = hp.objs.size + 1
            · rw [h2, L2.del_same, hn]
            · rw [L2.del_ne h2, upd_ne h2, upd_ne h1]
        rw [e]
        exact qf d nd
    | next => exact False.elim hq'
    | brk => exact False.elim hq'
    | cont => exact False.elim hq'
theorem pmk_err (R : Er X.prog X.w X.K X.mg X.base x C fs) (hr : Room 2 X.A) (hg : Gl X x) (ha : PA X (e :: es) ta)
    (hdb : (x == ("__debug__" : Str)) = false := by decide) (he : starEach (e :: es) X.env = (false, eval e X.env) :: starEach es X.env := by rfl) (hpl : (backTo pos (starEach es X.env)).any (·.1) = false := by rfl) :
    PMk X (.Call (.Name x p) (e :: es) [] pos) (tMkE C fs ta) := fun pins s σ H Q I h => pmk_err0 R hr hg ha hdb he hpl pins s σ H Q I ⟨_, h, fun _ _ z => z⟩
end

/-- an error as a value: it is told, with its fields -/
def tErr (C : Addr) (fs : List Str) (ta : TA) : TE := fun σ H Q => ta σ H fun vs H1 => vs.length = fs.length ∧ ∀ H2 a d, Same H1 H2 → H1 a = none → H1 d = none → KeptAt H2 a C d (fs.zip vs).reverse → Q (.ref a) H2
theorem PE.weak {X : Cx} {e : Expr} {t u : TE} (h : PE X e t) (k : ∀ σ H Q, u σ H Q → t σ H Q) : PE X e u := ⟨fun pins s σ H Q I z => h.run pins s σ H Q I (k _ _ _ z)⟩
theorem pe_err {X : Cx} {x : Str} {C : Addr} {fs : List Str} {e : Expr} {es : List Expr} {ta : TA} {p pos : Pos} (x0 : X.ex = []) (st : X.stack = X.env :: X.outer) (fl : X.env.frame = some X.env.locals) (R : Er X.prog X.w X.K X.mg X.base x C fs) (hr : Room 2 X.A) (hg : Gl X x) (ha : PA X (e :: es) ta)
    (hdb : (x == ("__debug__" : Str)) = false := by decide) (he : starEach (e :: es) X.env = (false, eval e X.env) :: starEach es X.env := by rfl) (hpl : (backTo pos (starEach es X.env)).any (·.1) = false := by rfl) :
    PE X (.Call (.Name x p) (e :: es) [] pos) (tErr C fs ta) := by
  refine PE.weak (pe_kept x0 st fl (pmk_err0 R hr hg ha hdb he hpl)) fun σ H Q h => ⟨_, h, fun vs H1 ⟨l, q⟩ => ⟨l, fun d hd a ha => ?_⟩⟩
  have ne : a ≠ d := fun z => by rw [z, upd_same] at ha; cases ha
  have ha1 : H1 a = none := by rw [upd_ne ne] at ha; exact ha
  refine q _ a d ((same_new hd).trans (same_new ha)) ha1 hd ⟨upd_same, ?_⟩
  rw [upd_ne (Ne.symm ne), upd_same]
end Nb
namespace Nb
open PySem PySem.Spec PyProof.Rows Builtin.ObjectAttr
open L2 hiding del del_ne del_same
/-- all of it as one answer of the written part -/
def errB (K : PySem.W.Frag) (C : Addr) (bm : List Value) (nw : String) (fs : List Str) : Bool :=
  PySem.W.excInitIn K C bm nw && (PySem.W.excOver K C bm && (decide (PySem.W.findIn K (.ref C) "__setattr__" = some (some (.builtin "object.__setattr__"))) && (decide (PySem.W.typeIn K (.ref C) = some (.type "type")) && (PySem.W.keepIn K (.ref C) &&
  (decide (PySem.W.findIn K (.ref C) "__getattribute__" = some (some (.builtin "BaseException.__getattribute__"))) && (decide (PySem.W.findIn K (.ref C) "__getattr__" = some none) && (decide (PySem.W.subIn K (.ref C) (.type "BaseException") = some true) && (PySem.W.hasDictIn K C &&
  (decide (PySem.W.findIn K (.ref C) "__class__" = some (some (.builtin "object.__class__"))) && (decide (PySem.W.specialIn K (.builtin "object.__class__") "__get__" = some (some (.builtin "getset_descriptor.__get__"))) && (decide (PySem.W.takesIn K (.builtin "object.__class__") = some true) &&
  (decide (PySem.W.mroIn K C (.type "object") = some true) && fs.all fun f => decide (PySem.W.findIn K (.ref C) f = some none)))))))))))))
theorem er_mk {P : Program} {w : World} {K : PySem.W.Frag} {mg : Str → Option Value} {base : Heap} {x : Str} {C fI : Addr} {fd : FuncData} {fs : List Str} {B nw ini : String} {bm : List Value} (ov : Over B nw ini bm) (g : mg x = some (.ref C)) (q : errB K C bm nw fs = true)
    (i : PySem.W.findIn K (.ref C) "__init__" = some (some (.ref fI))) (t : PySem.W.typeIn K (.ref fI) = some (.type "function")) (b : Binds K fd ("self" :: fs) []) (G : FnOk P w K mg base CX0 1 fI fd ("self" :: fs) (spMk K fs)) (l1 : fs.length ≤ 900) (l2 : 1 ≤ fs.length) : Er P w K mg base x C fs := by
  unfold errB at q
  simp only [Bool.and_eq_true, decide_eq_true_eq, List.all_eq_true] at q
  obtain ⟨q1, q2, q3, q4, q5, q6, q7, q8, q9, q10, q11, q12, q13, q14⟩ := q
  exact ⟨⟨⟨B, nw, ini, bm, ov, q1, q2⟩, q3, q4, q5, ⟨q6, q7, q8, q9, q10, q11, q12, q13⟩⟩, g, q14, l1, l2, fI, fd, i, t, b, G⟩
theorem Er.xf {P : Program} {w : World} {K : PySem.W.Frag} {mg : Str → Option Value} {base : Heap} {x : Str} {C : Addr} {fs : List Str} (R : Er P w K mg base x C fs) : XfC K C := ⟨R.T.ex.hg, R.T.ex.hk, R.T.ex.hs, R.T.ex.hd⟩
/-- isinstance(e, (C, D, ..)) of a kept error -/
def rIsT (K : PySem.W.Frag) : List V → Hp → VK → Prop := fun xs H Q => ∃ (a D dd t : Addr) (fs : List (Str × V)) (cs : List V) (cvs : List Value) (b : Bool), xs = [.ref a, .ref t] ∧ ExcC K D ∧ KeptAt H a D dd fs ∧ SqT K H t cs ∧ (∀ us, Vals cs us → us = cvs) ∧ PySem.W.kitAny K (.ref D) cvs = some b ∧ Q (.bl b) H
theorem call_isKt {X : Cx} : CallR X (.builtin "isinstance") (rIsT X.K) := by
  intro pins s σ H xs us Q I r h
  obtain ⟨a, D, dd, t, fs, cs, cvs, b, rfl, C, ka, ht, hcv, e, q⟩ := h
  obtain ⟨oe, od, mA, J, _⟩ := kept_inst I.hok ka
  obtain ⟨its, ri, ⟨⟨tc, td, tdat, tsl⟩, et, ec1, n2, ed1⟩, _⟩ := I.tuple ht
  cases (show tc = Value.type "tuple" from ec1)
  cases (show tdat = Data.seq its.toArray n2 from ed1)
  cases r with
  | cons rx rr => cases rr with
    | cons rt rr =>
      cases rr
      cases rx
      cases rt
      obtain ⟨cd, hc, _⟩ := PySem.W.any_some C.hd
      have ec := hcv _ ri
      subst ec
      exact PySem.W.kia_tup (PySem.W.kitx_exc (by rw [hc]; rfl) C.hg C.hk C.hs C.ha C.hn C.ht C.hm) I.kIn J et e (fun z => nomatch z) fun tk => ⟨.bl b, H, I.kept (t' := tk) fun _ _ z => z, rfl, q⟩
end Nb

set_option Elab.async false
set_option linter.all false
set_option maxRecDepth 100000
set_option maxHeartbeats 2000000
/-! ==, +, len and truth by a class's own methods. -/
namespace Nb
open PySem PySem.Spec PyProof.Rows
open L2 hiding del del_ne del_same
section
variable {X : Cx} {CX : CXT} {n : Nat} {f : Addr} {fd : FuncData} {ps : List Str} {sp : Sp} {E : XK} {A : Around} {pins : List (Addr × Obj)} {σ : L2.St} {H : Hp} {s : Shared} {Q : VK} {vs : List V} {us : List Value}
/-- an own def, called from within a builtin -/
theorem own_run (F : FnOk X.prog X.w X.K X.mg X.base CX n f fd ps sp) (hb : Binds X.K fd ps []) (hx : Passes CX X E) (sb : L2.Sub X n A) (I : Inv X pins σ H s) (r : Vals vs us) (hsp : sp vs H Q E) :
    wpAny (model X.prog X.w) A (call (.ref f) us) (EP X pins σ Q) X.xe s := by
  have e0 : Env0 X.prog X.w X.K X.mg X.base A X.stack s H := by
    have e := I.env0
    exact ⟨by rw [sb.fr]; exact e.frames, e.mod, e.bs, e.bsz, e.funs, e.frf, e.hok, e.bare⟩
  have hl := F.len _ _ _ _ hsp
  have hl2 : us.length = ps.length := by rw [← r.length]; exact hl
  refine wpAny_call (codeAny_mono (F.run A X.stack s H ⟨us, []⟩ us vs _ E sb.room e0 (by
    have := hb s us I.kIn (by simpa using hl2)
    simpa using this) r hsp) fun r s' hq => ?_)
  cases r with
  | error e => exact hx pins σ H s e s' I hq
  | ok fl =>
    cases fl with
    | ret w => exact I.after hq
    | next => exact False.elim hq
    | brk => exact False.elim hq
    | cont => exact False.elim hq
/-- a method that is asked by its name in the class -/
structure Om (X : Cx) (CX : CXT) (n : Nat) (C : Addr) (m : Str) (ps : List Str) (sp : Sp) : Prop where
  ex : ∃ (f : Addr) (fd : FuncData), PySem.W.findIn X.K (.ref C) m = some (some (.ref f)) ∧ PySem.W.isFn X.K (.ref f) = true ∧ Binds X.K fd ps [] ∧ FnOk X.prog X.w X.K X.mg X.base CX n f fd ps sp
theorem Mn.om {m : Str} {C : Addr} (D : Mn X.prog X.w X.K X.mg X.base CX n C m ps sp) : Om X CX n C m ps sp := let ⟨f, fd, M, b, F⟩ := D.ex; ⟨f, fd, M.at_, M.fn, b, F⟩
/-- x == y by the own __eq__ of x's class, which answers True or False -/
def rEqO (C : Addr) (sp : Sp) (E : XK) (K : PySem.W.Frag) : R2 := fun x y H Q => ∃ a b dx fs D dy gs, x = .ref a ∧ y = .ref b ∧ H a = some (.ins C dx fs) ∧ H b = some (.ins D dy gs) ∧ PySem.W.notFirst K C (.ref D) = true ∧
  sp [.ref a, .ref b] H (fun v H' => ∃ c, v = .bl c ∧ Q (.bl c) H') E
theorem op_eqO {C : Addr} (O : Om X CX n C "__eq__" ps sp) (hr : Room n X.A) (hx : Passes CX X E) : OpR X (compareOp .Eq) (rEqO C sp E X.K) := by
  intro pins s σ H x y v u Q I rx ry hq
  obtain ⟨a, b, dx, fs, D, dy, gs, rfl, rfl, ha, hb', nf, h⟩ := hq
  obtain ⟨f, fd, hs, hf, hbn, F⟩ := O.ex
  cases rx
  cases ry
  obtain ⟨mA, J, _⟩ := ins_get I.hok ha
  obtain ⟨mB, J', _⟩ := ins_get I.hok hb'
  obtain ⟨od, J, _⟩ := J.look
  obtain ⟨od', J', _⟩ := J'.look
  obtain ⟨m, hF⟩ := I.fr
  show wpAny (model X.prog X.w) X.A (richCompare .Eq (.ref a) (.ref b)) (EP X pins σ Q) X.xe s
  refine PySem.W.cmp_K (op := .Eq) (tb := .ref D) hr.units0 hF I.ok.mod.kin J J'.type nf hs hf ?_
  refine wpAny_mono (own_run (vs := [.ref a, .ref b]) F hbn hx ⟨hr, rfl⟩ I (.cons rfl (.cons rfl .nil)) h) (fun r s' z => ?_) fun _ _ e => e
  obtain ⟨v, H', I', rz, c, ez, q⟩ := z
  subst ez
  cases rz
  exact ⟨.bl c, H', I', rfl, q⟩
/-- len(x) by the own __len__ -/
theorem call_lenO {C : Addr} (O : Om X CX n C "__len__" ps sp) (hr : Room (n + 1) X.A) (hx : Passes CX X E) : CallR X (.builtin "len") (fun xs H Q => ∃ a dx fs, xs = [.ref a] ∧ H a = some (.ins C dx fs) ∧ sp [.ref a] H (fun v H' => ∃ k : Int, v = .int k ∧ 0 ≤ k ∧ k < 2 ^ 63 ∧ Q (.int k) H') E) := by
  intro pins s σ H xs us Q I r h
  obtain ⟨a, dx, fs, rfl, ha, h⟩ := h
  obtain ⟨f, fd, hs, hf, hbn, F⟩ := O.ex
  obtain ⟨u, rfl, rx⟩ := vals1 r
  cases rx
  obtain ⟨mA, J, _⟩ := ins_get I.hok ha
  obtain ⟨od, J, _⟩ := J.look
  obtain ⟨m, hF⟩ := I.fr
  refine PySem.W.len_K hF I.ok.mod.kin J hs hf ?_
  refine wpAny_mono (own_run (vs := [.ref a]) F hbn hx (L2.Sub.in1 ⟨hr, rfl⟩) I (.cons rfl .nil) h) (fun r s' z => ?_) fun _ _ e => e
  obtain ⟨v, H', I', rz, k, ez, k0, k1, q⟩ := z
  subst ez
  obtain ⟨t, rfl⟩ := rz
  exact ⟨⟨k0, k1⟩, .int k, H', I'.tok _, ⟨_, rfl⟩, q⟩
end
/-! ### calls of two or more arguments, some of them with a star -/
theorem evalArgs_two {M : Model} {A : Around} {E : Value → Shared → Prop} {s : Shared} {f : Value} {a b : Bool × Sem Value} {rest : List (Bool × Sem Value)} {Q : Args → Shared → Prop}
    (h : wpAny M A (spliced (a :: b :: rest)) (fun vs s' => Q ⟨vs, []⟩ s') E s) : wpAny M A (evalArgs f true (a :: b :: rest) []) Q E s := by
  obtain ⟨c, x⟩ := a
  unfold evalArgs
  cases c
  · show wpAny M A (spliced ((false, x) :: b :: rest) >>= _) Q E s
    refine wpAny_bind (wpAny_mono h (fun vs s' h' => ?_) fun _ _ x => x)
    exact wpAny_holding (wpAny_bind (wpAny_pure (wpAny_bind (wpAny_pure (wpAny_pure h')))))
  · show wpAny M A (spliced ((true, x) :: b :: rest) >>= _) Q E s
    refine wpAny_bind (wpAny_mono h (fun vs s' h' => ?_) fun _ _ x => x)
    exact wpAny_holding (wpAny_bind (wpAny_pure (wpAny_bind (wpAny_pure (wpAny_pure h')))))
/-- x( *a, b, ..): a def with a star of its own, stars among two or more arguments -/
theorem pe_Rmix {X : Cx} {CX : CXT} {k : Nat} {sp : Sp} {E : XK} {x : Str} {p pos : Pos} {e e2 : Expr} {es : List Expr} {t : TA} {b1 b2 : Bool} {y1 y2 : Sem Value} {r1 : List (Bool × Sem Value)} (D : Dr X.prog X.w X.K X.mg X.base CX k x sp) (hr : Room k X.A) (hg : Gl X x) (hx : Passes CX X E) (ha : PA X (e :: e2 :: es) t)
    (hdb : (x == ("__debug__" : Str)) = false := by decide) (he : backTo pos (starEach (e :: e2 :: es) X.env) = (b1, y1) :: (b2, y2) :: r1 := by rfl) (hst : ((b1, y1) :: (b2, y2) :: r1).any (·.1) = true := by rfl) : PE X (.Call (.Name x p) (e :: e2 :: es) [] pos) (tR sp E t) := by
  obtain ⟨f, kp, g, F⟩ := D.ex
  refine ⟨fun pins s σ H Q I h => ?_⟩
  refine wpAny_Call_Name_kw (ld_glob I hg g ?_ hdb)
  have run := ha.run pos pins s σ H _ I h
  rw [he] at run ⊢
  exact PySem.W.ks_call hst (PySem.W.keeps_K kp) (evalArgs_two (thn run fun us s1 ⟨vs, H1, I1, r, q⟩ => ⟨I1.kIn, wpAny_call (run_fnR F hr hx I1 r q)⟩))
end Nb

set_option Elab.async false
set_option linter.all false
set_option maxRecDepth 100000
set_option maxHeartbeats 4000000
/-! x + y of two own classes, one maybe below the other; != by an own __eq__. -/
namespace PySem.W
open PySem PySem.Calls PyProof.Rows Builtin Builtin.ObjectAttr
section
variable {α : Type} {prog : Program} {w : World} {A : Around} {E : Value → Shared → Prop} {s : Shared} {K : Frag}
theorem raise_attr {msg : Str} {Q : α → Shared → Prop} (hh : A.handled = none) (h : ∀ h' tk e, Heap.NewExcOf s.heap h' e "AttributeError" → E (.ref e) { s with heap := h', toks := tk }) (hm : msg.length ≤ sizeLine) :
    wpAny (model prog w) A (raiseErrorStr "AttributeError" msg : Sem α) Q E s := by
  unfold raiseErrorStr
  refine wpAny_bind (wpAny_mkStr (wpAny_bind ?_) hm)
  unfold newExc newTuple
  refine wpAny_bind (wpAny_newObj_type ?_ (by size_fits))
  refine wpAny_bind (m := firstArgMember _ _) (wpAny_of_eq (a := Value.none) (by simp only [firstArgMember, attrError_no_first]; rfl) ?_)
  rw [ownMembersOf_AttributeError]
  refine wpAny_newObj_type ?_ (by size_fits)
  obtain ⟨hp, g, d, tk, os⟩ := s
  unfold raiseNew
  refine wpAny_bind (wpAny_handled ?_)
  rw [hh]
  first
    | refine wpAny_throw ?_
    | refine wpAny_bind (wpAny_pure (wpAny_throw ?_))
  dsimp only
  refine h _ _ _ ⟨fun b ob hb => ?_, Heap.get?_none_of_le (by simp), ?_⟩
  · exact Heap.get?_push_of_some _ (Heap.get?_push_of_some _ hb)
  · exact ⟨_, _, Heap.get?_push_size _ rfl, rfl, rfl, rfl⟩
/-- an attribute that neither the class at D nor its type mc has -/
def missIn (K : Frag) (D : Addr) (mc : Value) (name : Str) : Bool :=
  findIn K mc name == some none && findIn K (.ref D) name == some none && (clsIn K D).any fun cd => decide (cd.name.cps.foldl (fun k c => k + (Str.utf8Of c).length) 0 ≤ 100) && decide (((s!"type object '{cd.name.toString}' has no attribute '" : Str) ++ name ++ "'").length ≤ sizeLine)
theorem looks_nameCut {M : Model} {h : Heap} {C : Addr} {cd : ClassData} (X : K.In h) (hc : clsIn K C = some cd) (hn : cd.name.cps.foldl (fun k c => k + (Str.utf8Of c).length) 0 ≤ 100) : Looks M h (typeNameCut 100 (.ref C)) cd.name.toString := by
  unfold typeNameCut
  refine (looks_clsIn X hc).andThen ?_
  dsimp only
  rw [if_pos hn]
  exact .now
theorem tga_miss {D : Addr} {mc : Value} {name : Str} {tk : Tok} {Q : Fin → Shared → Prop} (X : K.In s.heap) (ho : Looks (model prog w) s.heap (opaqueClassAbove (.ref D)) none) (ht : Looks (model prog w) s.heap (typeOf (.ref D)) mc) (hm : missIn K D mc name = true) (hh : A.handled = none)
    (h : ∀ h' tk e, Heap.NewExcOf s.heap h' e "AttributeError" → E (.ref e) { s with heap := h', toks := tk }) : wpAny (model prog w) A (Builtin.«type.__getattribute__» ⟨[.ref D, .str name tk], []⟩) Q E s := by
  unfold missIn at hm
  obtain ⟨⟨h1, h2⟩, h3⟩ : (findIn K mc name = some none ∧ findIn K (.ref D) name = some none) ∧ _ := by
    rw [Bool.and_eq_true, Bool.and_eq_true, beq_iff_eq, beq_iff_eq] at hm
    exact hm
  obtain ⟨cd, hc, h4⟩ := any_some h3
  rw [Bool.and_eq_true, decide_eq_true_eq, decide_eq_true_eq] at h4
  obtain ⟨hh0, g, d, t, os⟩ := s
  dsimp only at X ho ht
  have L1 := looks_findIn (M := model prog w) X h1
  have L2 := looks_findIn (M := model prog w) X h2
  have L3 := looks_nameCut (M := model prog w) X hc h4.1
  unfold Builtin.«type.__getattribute__»
  refine wpAny_bind (wpAny_pure (wpAny_bind (ho.at (wpAny_bind (ht.at (wpAny_bind (L1.at ?_)))))))
  refine wpAny_bind (wpAny_pure (wpAny_bind (L2.at ?_)))
  refine wpAny_bind (wpAny_rule (wpAny_bind (L3.at ?_)))
  exact raise_attr hh h h4.2
theorem isInst_attr {M : Model} {h : Heap} {e : Addr} {ob : Obj} (he : h.get? e = some ob) (hc : ob.cls = .type "AttributeError") : Looks M h (isInstance (.ref e) (.type "AttributeError")) true := by
  intro A Q E s k q
  unfold isInstance
  refine wpAny_bind (wpAny_typeOf_ref (k _ _ he) ?_)
  rw [hc, sub_AttributeError]
  exact wpAny_pure q
theorem type_hook : typeLookup (.type "type") "__getattr__" = pure none := am_miss_of_fast (by first | decide +kernel | rfl)
theorem getBy_miss {D : Addr} {name : Str} {tk : Tok} {Q : Option Value → Shared → Prop} (X : K.In s.heap) (hr : readsIn K D (.type "type") = true) (hm : missIn K D (.type "type") name = true) (hh : A.handled = none)
    (h : ∀ h' tk', (∀ b o, s.heap.get? b = some o → h'.get? b = some o) → Q none { s with heap := h', toks := tk' }) : wpAny (model prog w) A (getAttrBy? (.ref D) (.str name tk)) Q E s := by
  simp only [readsIn, Bool.and_eq_true, beq_iff_eq] at hr
  obtain ⟨⟨⟨⟨a, b⟩, c'⟩, d⟩, f⟩ := hr
  obtain ⟨hp, g, dr, t, os⟩ := s
  dsimp only at X
  have ho := looks_opaque (M := model prog w) (C := D) X a
  have ht := looks_typeIn (M := model prog w) X b
  have Lg := looks_findIn (M := model prog w) X c'
  unfold getAttrBy? getAttrBy
  refine wpAny_bind (wpAny_attempt (wpAny_holding (wpAny_bind (ht.at (wpAny_bind (Lg.at ?_))))))
  dsimp only
  rw [show (onTheHeap (Value.type "type") && Value.builtin "type.__getattribute__" == Value.builtin "object.__getattribute__") = false from rfl, if_neg (by decide)]
  unfold getAttrByItsOwn hookBefore
  refine wpAny_bind ?_
  rw [if_neg (show ¬ onTheHeap (Value.type "type") = true by decide)]
  refine wpAny_pure (wpAny_bind (wpAny_attempt (wpAny_holding ?_)))
  unfold callGetattribute
  rw [show (false && onTheHeap (Value.builtin "type.__getattribute__")) = false from rfl, if_neg (by decide)]
  unfold boundAndCalled
  rw [KF.slot_tga.bind]
  refine wpAny_bind (wpAny_pure ?_)
  show wpAny _ _ (call (.builtin "type.__getattribute__") [.ref D, .str name tk]) _ _ _
  refine wpAny_call (codeAny_call_builtin KF.slot_tga.plain KF.entry_tga ?_)
  refine @check_slot (model prog w) _ _ ⟨hp, g, dr, t, os⟩ "type.__getattribute__" "type" "__getattribute__" (.ref D) [.str name tk] [] _ (by decide +kernel) (by decide +kernel) (ht.andThen (looks_subIn X f)) (KF.args_tga (.ref D) (.str name tk)) ?_
  refine tga_miss (s := ⟨hp, g, dr, t, os⟩) X ho ht hm (show A.in1.handled = none from hh) fun h' tk' e ne => ?_
  obtain ⟨ob, vs, he, hc, _, _⟩ := ne.there
  have Li := isInst_attr (M := model prog w) he hc
  show wpAny _ _ (getattributeRaised _ _ _ _ _ _ _) _ _ _
  unfold getattributeRaised hookBehind
  refine wpAny_bind (Li.at ?_)
  rw [if_pos rfl, if_neg (show ¬ onTheHeap (Value.type "type") = true by decide), type_hook]
  refine wpAny_bind (wpAny_pure ?_)
  unfold hookOrError attributeErrorLeaves
  dsimp only
  rw [if_pos (show (!false) = true from rfl)]
  refine wpAny_throw ?_
  refine wpAny_bind (Li.at ?_)
  rw [if_pos rfl]
  exact wpAny_pure (h _ _ ne.keeps)
end
end PySem.W

set_option Elab.async false
set_option linter.all false
set_option maxRecDepth 100000
set_option maxHeartbeats 4000000
namespace PySem.W
open PySem PySem.Calls PyProof.Rows Builtin Builtin.ObjectAttr
section
variable {prog : Program} {w : World} {A : Around} {E : Value → Shared → Prop} {s : Shared} {K : Frag} {x y C D L f g : Addr} {h₀ : Heap} {m : Str → Option Value} {ox oy : Obj} {od od' : Option Obj}
theorem inst_keeps {h h' : Heap} (I : InstAt h x ox C od) (k : ∀ b o, h.get? b = some o → h'.get? b = some o) : InstAt h' x ox C od := by
  refine ⟨k _ _ I.at_, I.cls, I.no, ?_⟩
  have := I.dict
  revert this
  cases ox.dict <;> cases od <;> first | exact id | exact fun z => k _ _ z
theorem num_K {M : Model} {h : Heap} {nm : String} (X : K.In h) (hs : findIn K (.ref C) (PySem.dunder nm) = some (some (.ref f))) (hr : findIn K (.ref C) (dunderR nm) = some none) : Looks M h (numberSlotInPython (.ref C) nm) true := by
  intro A Q E s k q
  unfold numberSlotInPython
  refine wpAny_bind (looks_findIn X hs A _ E s k ?_)
  refine wpAny_bind (wpAny_pure ?_)
  refine wpAny_bind (looks_findIn X hr A _ E s k ?_)
  refine wpAny_bind (wpAny_pure ?_)
  rw [if_pos (by rfl)]
  exact wpAny_pure q
theorem reflected_K {nm : String} {Q : Bool → Shared → Prop} (X : K.In s.heap) (hs : findIn K (.ref C) (PySem.dunder nm) = some (some (.ref f))) (hr : findIn K (.ref C) (dunderR nm) = some none) (hs' : findIn K (.ref D) (PySem.dunder nm) = some (some (.ref g))) (hr' : findIn K (.ref D) (dunderR nm) = some none)
    (rd : readsIn K D (.type "type") = true) (ms : missIn K D (.type "type") (dunderR nm) = true) (hl : (dunderR nm).length ≤ sizeLine) (hh : A.handled = none) (h : ∀ h' tk', (∀ b o, s.heap.get? b = some o → h'.get? b = some o) → Q false { s with heap := h', toks := tk' }) :
    wpAny (model prog w) A (reflectedDiffers (.ref C) (.ref D) nm) Q E s := by
  obtain ⟨hp, g0, d, tk, os⟩ := s
  dsimp only at X
  unfold reflectedDiffers
  refine wpAny_bind ((num_K (M := model prog w) X hs hr).at ?_)
  rw [if_neg (by decide)]
  refine wpAny_bind ((num_K (M := model prog w) X hs' hr').at ?_)
  rw [if_neg (by decide)]
  refine wpAny_bind (wpAny_mkStr (wpAny_bind ?_) hl)
  refine getBy_miss (s := ⟨hp, g0, d, tk + 1, os⟩) X rd ms hh fun h' tk' k => ?_
  exact wpAny_pure (h h' tk' k)
theorem binop_two {op : Operator} {Q : Value → Shared → Prop} (F : Fr h₀ L s.heap m) (X₀ : K.In h₀) (I : InstAt s.heap x ox C od) (J : InstAt s.heap y oy D od') (ne : C ≠ D) (hC : selfFirst K C = true) (hD : selfFirst K D = true)
    (hs : findIn K (.ref C) (PySem.dunder op.info.2) = some (some (.ref f))) (hr : findIn K (.ref C) (dunderR op.info.2) = some none) (hs' : findIn K (.ref D) (PySem.dunder op.info.2) = some (some (.ref g))) (hr' : findIn K (.ref D) (dunderR op.info.2) = some none)
    (rd : readsIn K D (.type "type") = true) (ms : missIn K D (.type "type") (dunderR op.info.2) = true) (hl : (dunderR op.info.2).length ≤ sizeLine) (hsub : ∃ sb, subIn K (.ref D) (.ref C) = some sb) (hf : isFn K (.ref f) = true) (hh : A.handled = none)
    (h : ∀ h' tk', (∀ b o, s.heap.get? b = some o → h'.get? b = some o) → wpAny (model prog w) A (call (.ref f) [.ref x, .ref y]) (CmpBack Q) E { s with heap := h', toks := tk' }) : wpAny (model prog w) A (binaryOp op (.ref x) (.ref y)) Q E s := by
  have X := X₀.keeps F.keep
  obtain ⟨sb, hsub⟩ := hsub
  obtain ⟨cd, hcd, hm⟩ := any_some hC
  obtain ⟨rest, hm⟩ : ∃ rest, cd.mro = .ref C :: rest := by
    cases q : cd.mro with
    | nil => rw [q] at hm; cases hm
    | cons a r => rw [q] at hm; exact ⟨r, by rw [List.head?_cons] at hm; cases (beq_iff_eq.mp hm); rfl⟩
  obtain ⟨cd', hcd', hm'⟩ := any_some hD
  obtain ⟨rest', hm'⟩ : ∃ rest, cd'.mro = .ref D :: rest := by
    cases q : cd'.mro with
    | nil => rw [q] at hm'; cases hm'
    | cons a r => rw [q] at hm'; exact ⟨r, by rw [List.head?_cons] at hm'; cases (beq_iff_eq.mp hm'); rfl⟩
  unfold binaryOp
  obtain ⟨⟨sym, nm⟩, hi⟩ : ∃ p, p = op.info := ⟨_, rfl⟩
  rw [← hi] at hs hr hs' hr' ms hl ⊢
  dsimp only at hs hr hs' hr' ms hl ⊢
  refine wpAny_holding (wpAny_bind ?_)
  unfold binaryOp1
  refine wpAny_bind (I.type.here (wpAny_bind (J.type.here (wpAny_bind ((fills_K X hcd hm hs).here ?_)))))
  rw [show (Value.ref C == Value.ref D) = false from by simp [ne]]
  simp only [Bool.false_eq_true, if_false]
  refine wpAny_bind ((fills_K X hcd' hm' hs').here ?_)
  simp only [Bool.and_self, if_true]
  refine wpAny_bind ((looks_subIn X hsub).here ?_)
  have fin : ∀ h' tk', (∀ b o, s.heap.get? b = some o → h'.get? b = some o) → wpAny (model prog w) A (tryMethod (.ref x) (PySem.dunder nm) (.ref y)) (fun r s' => ∃ v, r = some v ∧ Q v s') E { s with heap := h', toks := tk' } := fun h' tk' k => by
    unfold tryMethod
    refine wpAny_bind (special_fn (s := { s with heap := h', toks := tk' }) (X.keeps k) (inst_keeps I k) hs (beq_iff_eq.mp hf) (wpAny_mono (h h' tk' k) (fun v s' hv => ?_) fun _ _ e => e))
    cases v <;> first | exact hv.elim | exact wpAny_pure ⟨_, rfl, hv⟩
  cases sb
  · simp only [Bool.false_eq_true, if_false, Bool.not_false, Bool.and_self, if_true]
    refine wpAny_bind ((num_K (M := model prog w) X hs hr).here ?_)
    rw [if_pos rfl]
    refine wpAny_bind ((num_K (M := model prog w) X hs' hr').here ?_)
    rw [if_neg (by decide)]
    refine wpAny_bind (wpAny_mono (fin _ _ fun _ _ z => z) (fun r s' z => ?_) fun _ _ e => e)
    obtain ⟨v, rfl, hq⟩ := z
    exact wpAny_pure (wpAny_pure hq)
  · simp only [if_true]
    refine wpAny_bind (reflected_K X hs hr hs' hr' rd ms hl hh fun h' tk' k => ?_)
    simp only [Bool.false_eq_true, if_false, Bool.not_false, Bool.and_self, if_true]
    refine wpAny_bind ((num_K (M := model prog w) (X.keeps k) hs hr).here ?_)
    rw [if_pos rfl]
    refine wpAny_bind ((num_K (M := model prog w) (X.keeps k) hs' hr').here ?_)
    rw [if_neg (by decide)]
    refine wpAny_bind (wpAny_mono (fin h' tk' k) (fun r s' z => ?_) fun _ _ e => e)
    obtain ⟨v, rfl, hq⟩ := z
    exact wpAny_pure (wpAny_pure hq)

/-- x != b by the own __eq__ of x's class, through object.__ne__ -/
theorem ne_K {b tb : Value} {Q : Value → Shared → Prop} (hu : A.units + 1 < cLine) (Fz : Fr h₀ L s.heap m) (X₀ : K.In h₀) (I : InstAt s.heap x ox C od) (hb : Looks (model prog w) s.heap (typeOf b) tb) (hn : notFirst K C tb = true)
    (hne : findIn K (.ref C) "__ne__" = some (some (.builtin "object.__ne__"))) (ho : subIn K (.ref C) (.type "object") = some true) (hs : findIn K (.ref C) "__eq__" = some (some (.ref f))) (hf : isFn K (.ref f) = true)
    (h : wpAny (model prog w) A.in1 (call (.ref f) [.ref x, b]) (fun v s' => ∃ r, v = .bool r ∧ Q (.bool (!r)) s') E s) : wpAny (model prog w) A (richCompare .NotEq (.ref x) b) Q E s := by
  have X := X₀.keeps Fz.keep
  have body : wpAny (model prog w) A.in1 (Builtin.«object.__ne__» ⟨[.ref x, b], []⟩) (fun fin s' => ∃ r, fin = .done (.ret (.bool (!r))) ∧ Q (.bool (!r)) s') E s := by
    unfold Builtin.«object.__ne__»
    refine wpAny_bind (wpAny_of_eq (a := ((Value.ref x : Value), [b])) (by first | rfl | (simp only [slotArgs]; rfl)) ?_)
    refine wpAny_bind (wpAny_cRoomFor (show A.in1.units < cLine from hu) ?_)
    refine wpAny_bind (ifBound_K X I hs hf (wpAny_mono h (fun v s' hv => ?_) fun _ _ e => e))
    obtain ⟨r, rfl, hq⟩ := hv
    exact wpAny_bind (wpAny_truthy_bool (wpAny_pure ⟨r, rfl, hq⟩))
  have called : wpAny (model prog w) A (call (.builtin "object.__ne__") [.ref x, b]) (fun v s' => ∃ r, v = .bool (!r) ∧ Q (.bool (!r)) s') E s := by
    refine wpAny_call (codeAny_call_builtin F.cmp_object.ne.plain F.cmpEntry_ne ?_)
    refine @check_slot (model prog w) _ _ s "object.__ne__" "object" "__ne__" (.ref x) [b] [] _ F.cmpKind_ne F.cmpSplit_ne (I.type.andThen (looks_subIn X ho)) (F.cmpArgs_ne _ _) ?_
    refine wpAny_mono body (fun fin s' z => ?_) fun _ _ e => e
    obtain ⟨r, rfl, hq⟩ := z
    exact ⟨r, rfl, hq⟩
  have one : wpAny (model prog w) A (tryCompare (.ref x) "__ne__" b) (fun r s' => ∃ v, r = some v ∧ Q v s') E s := by
    unfold tryCompare
    refine wpAny_bind ?_
    simp only [callSpecialIfBound?, bindSpecialIfBound?]
    refine wpAny_holding (wpAny_bind (wpAny_bind (wpAny_bind (I.type.here ((looks_findIn X hne).here ?_)))))
    simp only [F.cmp_object.ne.bind]
    have fin : wpAny (model prog w) A (call (.builtin "object.__ne__") ([.ref x] ++ [b]) >>= fun v => pure (some v)) (fun r s' => wpAny (model prog w) A (match r with | some .notImplemented | none => pure none | some v => pure (some v)) (fun r s' => ∃ v, r = some v ∧ Q v s') E s') E s :=
      wpAny_bind (wpAny_mono called (fun v s' z => by
        obtain ⟨r, rfl, hq⟩ := z
        exact wpAny_pure (wpAny_pure ⟨_, rfl, hq⟩)) fun _ _ e => e)
    refine wpAny_bind (wpAny_askSetting (wpAny_ite ?_))
    split
    · exact wpAny_bind (wpAny_pure (wpAny_pure fin))
    · exact wpAny_tryCatch (wpAny_bind (wpAny_pure (wpAny_pure fin)))
  unfold richCompare
  simp only [oneThing_ref]
  refine wpAny_holding (wpAny_bind (wpAny_cRoomFor (Nat.lt_of_succ_lt hu) ?_))
  refine wpAny_bind (I.type.here (wpAny_bind (hb.here ?_)))
  split
  · rename_i q
    have e : subIn K tb (.ref C) = some false := by
      rcases Bool.or_eq_true_iff.mp hn with e | e
      · rw [beq_iff_eq.mp e] at q; simp at q
      · exact beq_iff_eq.mp e
    refine wpAny_bind ((looks_subIn X e).here ?_)
    simp only [Bool.false_eq_true, if_false]
    refine wpAny_bind (wpAny_mono one (fun r s' z => ?_) fun _ _ e => e)
    obtain ⟨v, rfl, hq⟩ := z
    exact wpAny_pure hq
  · refine wpAny_bind (wpAny_pure ?_)
    simp only [Bool.false_eq_true, if_false]
    refine wpAny_bind (wpAny_mono one (fun r s' z => ?_) fun _ _ e => e)
    obtain ⟨v, rfl, hq⟩ := z
    exact wpAny_pure hq
end
end PySem.W

set_option Elab.async false
set_option linter.all false
set_option maxRecDepth 100000
set_option maxHeartbeats 4000000
namespace Nb
open PySem PySem.Spec PyProof.Rows
open L2 hiding del del_ne del_same
section
variable {X : Cx} {CX : CXT} {n : Nat} {ps : List Str} {sp : Sp} {E : XK}
/-- x != y by the own __eq__ of x's class -/
def rNeO (C : Addr) (sp : Sp) (E : XK) (K : PySem.W.Frag) : R2 := fun x y H Q => ∃ a b dx fs D dy gs, x = .ref a ∧ y = .ref b ∧ H a = some (.ins C dx fs) ∧ H b = some (.ins D dy gs) ∧ PySem.W.notFirst K C (.ref D) = true ∧
  sp [.ref a, .ref b] H (fun v H' => ∃ c, v = .bl c ∧ Q (.bl (!c)) H') E
/-- what != asks of a class with an own __eq__ -/
structure NeC (K : PySem.W.Frag) (C : Addr) : Prop where
  ne : PySem.W.findIn K (.ref C) "__ne__" = some (some (.builtin "object.__ne__"))
  ob : PySem.W.subIn K (.ref C) (.type "object") = some true
theorem op_neO {C : Addr} (O : Om X CX n C "__eq__" ps sp) (N : NeC X.K C) (hr : Room (n + 1) X.A) (hu : X.A.units + 1 < cLine) (hx : Passes CX X E) : OpR X (compareOp .NotEq) (rNeO C sp E X.K) := by
  intro pins s σ H x y v u Q I rx ry hq
  obtain ⟨a, b, dx, fs, D, dy, gs, rfl, rfl, ha, hb', nf, h⟩ := hq
  obtain ⟨f, fd, hs, hf, hbn, F⟩ := O.ex
  cases rx
  cases ry
  obtain ⟨mA, J, _⟩ := ins_get I.hok ha
  obtain ⟨mB, J', _⟩ := ins_get I.hok hb'
  obtain ⟨od, J, _⟩ := J.look
  obtain ⟨od', J', _⟩ := J'.look
  obtain ⟨m, hF⟩ := I.fr
  show wpAny (model X.prog X.w) X.A (richCompare .NotEq (.ref a) (.ref b)) (EP X pins σ Q) X.xe s
  refine PySem.W.ne_K (tb := .ref D) hu hF I.ok.mod.kin J J'.type nf N.ne N.ob hs hf ?_
  refine wpAny_mono (own_run (vs := [.ref a, .ref b]) F hbn hx (L2.Sub.in1 ⟨hr, rfl⟩) I (.cons rfl (.cons rfl .nil)) h) (fun r s' z => ?_) fun _ _ e => e
  obtain ⟨v, H', I', rz, c, ez, q⟩ := z
  subst ez
  cases rz
  exact ⟨c, rfl, .bl (!c), H', I', rfl, q⟩
/-- what x + y asks of some classes, each with an own __add__ -/
structure Bo (K : PySem.W.Frag) (cs : List Addr) : Prop where
  sf : ∀ C ∈ cs, PySem.W.selfFirst K C = true
  no : ∀ C ∈ cs, PySem.W.findIn K (.ref C) "__radd__" = some none
  rd : ∀ C ∈ cs, PySem.W.readsIn K C (.type "type") = true
  ms : ∀ C ∈ cs, PySem.W.missIn K C (.type "type") "__radd__" = true
  sub : ∀ C ∈ cs, ∀ D ∈ cs, ∃ b, PySem.W.subIn K (.ref D) (.ref C) = some b
def boB (K : PySem.W.Frag) (cs : List Addr) : Bool := cs.all fun C => PySem.W.selfFirst K C && (PySem.W.findIn K (.ref C) "__radd__" == some none && (PySem.W.readsIn K C (.type "type") && (PySem.W.missIn K C (.type "type") "__radd__" && cs.all fun D => (PySem.W.subIn K (.ref D) (.ref C)).isSome)))
theorem bo_of {K : PySem.W.Frag} {cs : List Addr} (h : boB K cs = true) : Bo K cs := by
  unfold boB at h
  simp only [List.all_eq_true, Bool.and_eq_true, beq_iff_eq] at h
  exact ⟨fun C m => (h C m).1, fun C m => (h C m).2.1, fun C m => (h C m).2.2.1, fun C m => (h C m).2.2.2.1, fun C m D m' => Option.isSome_iff_exists.mp ((h C m).2.2.2.2 D m')⟩
def rAddO (cs : List Addr) (sp : Sp) (E : XK) : R2 := fun x y H Q => ∃ a b C dx fs D dy gs, x = .ref a ∧ y = .ref b ∧ C ∈ cs ∧ D ∈ cs ∧ H a = some (.ins C dx fs) ∧ H b = some (.ins D dy gs) ∧ sp [.ref a, .ref b] H Q E
theorem op_addO {cs : List Addr} (B : Bo X.K cs) (O : ∀ C ∈ cs, Om X CX n C "__add__" ps sp) (hr : Room n X.A) (hx : Passes CX X E) (cl : X.calm = true := by rfl) : OpR X (binaryOp .Add) (rAddO cs sp E) := by
  intro pins s σ H x y v u Q I rx ry hq
  obtain ⟨a, b, C, dx, fs, D, dy, gs, rfl, rfl, mC, mD, ha, hb', h⟩ := hq
  obtain ⟨f, fd, hs, hf, hbn, F⟩ := (O C mC).ex
  obtain ⟨f', fd', hs', hf', _, _⟩ := (O D mD).ex
  cases rx
  cases ry
  obtain ⟨mA, J, _⟩ := ins_get I.hok ha
  obtain ⟨mB, J', _⟩ := ins_get I.hok hb'
  obtain ⟨od, J, _⟩ := J.look
  obtain ⟨od', J', _⟩ := J'.look
  obtain ⟨m, hF⟩ := I.fr
  have go : ∀ s', Inv X pins σ H s' → wpAny (model X.prog X.w) X.A (call (.ref f) [.ref a, .ref b]) (PySem.W.CmpBack (EP X pins σ Q)) X.xe s' := fun s' I' =>
    wpAny_mono (own_run (vs := [.ref a, .ref b]) F hbn hx ⟨hr, rfl⟩ I' (.cons rfl (.cons rfl .nil)) h) (fun r s' z => by
      obtain ⟨v, H', I2, rz, q⟩ := z
      exact SlX.cmpback rz ⟨v, H', I2, rz, q⟩) fun _ _ e => e
  show wpAny (model X.prog X.w) X.A (binaryOp .Add (.ref a) (.ref b)) (EP X pins σ Q) X.xe s
  by_cases ne : C = D
  · subst ne
    exact PySem.W.binop_K hF I.ok.mod.kin J J'.type (B.sf C mC) hs hf (go s I)
  · exact PySem.W.binop_two hF I.ok.mod.kin J J' ne (B.sf C mC) (B.sf D mD) hs (B.no C mC) hs' (B.no D mD) (B.rd D mD) (B.ms D mD) (by decide +kernel) (B.sub C mC D mD) hf (I.ok.hd cl) fun h' tk' k => go _ (I.kept (t' := tk') k)

/-- an own def, called from within a builtin; what it may let out hangs on the slots -/
theorem own_runS {W : L2.St → XK} {pins : List (Addr × Obj)} {σ : L2.St} {H : Hp} {s : Shared} {Q : VK} {vs : List V} {us : List Value} {A : Around} {f : Addr} {fd : FuncData} (F : FnOk X.prog X.w X.K X.mg X.base CX n f fd ps sp) (hb : Binds X.K fd ps []) (hx : PassesAt CX X σ (W σ)) (sb : L2.Sub X n A) (I : Inv X pins σ H s) (r : Vals vs us) (hsp : sp vs H Q (W σ)) :
    wpAny (model X.prog X.w) A (call (.ref f) us) (EP X pins σ Q) X.xe s := by
  have e0 : Env0 X.prog X.w X.K X.mg X.base A X.stack s H := by
    have e := I.env0
    exact ⟨by rw [sb.fr]; exact e.frames, e.mod, e.bs, e.bsz, e.funs, e.frf, e.hok, e.bare⟩
  have hl := F.len _ _ _ _ hsp
  have hl2 : us.length = ps.length := by rw [← r.length]; exact hl
  refine wpAny_call (codeAny_mono (F.run A X.stack s H ⟨us, []⟩ us vs _ (W σ) sb.room e0 (by
    have := hb s us I.kIn (by simpa using hl2)
    simpa using this) r hsp) fun r s' hq => ?_)
  cases r with
  | error e => exact hx pins H s e s' I hq
  | ok fl =>
    cases fl with
    | ret w => exact I.after hq
    | next => exact False.elim hq
    | brk => exact False.elim hq
    | cont => exact False.elim hq
theorem pe_addS {W : L2.St → XK} {cs : List Addr} {ta tb : TE} {e1 e2 : Expr} {pos : Pos} (B : Bo X.K cs) (O : ∀ C ∈ cs, Om X CX n C "__add__" ps sp) (hr : Room n X.A) (hx : ∀ σ, PassesAt CX X σ (W σ)) (ha : PE X e1 ta) (hb : PE X e2 tb) (cl : X.calm = true := by rfl) :
    PE X (.BinOp e1 .Add e2 pos) (fun σ H Q => ta σ H fun x H1 => tb σ H1 fun y H2 => rAddO cs sp (W σ) x y H2 Q) := by
  refine ⟨fun pins s σ H Q I h => ?_⟩
  refine wpAny_BinOp (binT ha hb I h fun v u s2 x y H2 I rx ry hq => ?_)
  obtain ⟨a, b, C, dx, fs, D, dy, gs, rfl, rfl, mC, mD, ha, hb', h⟩ := hq
  obtain ⟨f, fd, hs, hf, hbn, F⟩ := (O C mC).ex
  obtain ⟨f', fd', hs', hf', _, _⟩ := (O D mD).ex
  cases rx
  cases ry
  obtain ⟨mA, J, _⟩ := ins_get I.hok ha
  obtain ⟨mB, J', _⟩ := ins_get I.hok hb'
  obtain ⟨od, J, _⟩ := J.look
  obtain ⟨od', J', _⟩ := J'.look
  obtain ⟨m, hF⟩ := I.fr
  have go : ∀ s', Inv X pins σ H2 s' → wpAny (model X.prog X.w) X.A (call (.ref f) [.ref a, .ref b]) (PySem.W.CmpBack (EP X pins σ Q)) X.xe s' := fun s' I' =>
    wpAny_mono (own_runS (vs := [.ref a, .ref b]) F hbn (hx σ) ⟨hr, rfl⟩ I' (.cons rfl (.cons rfl .nil)) h) (fun r s' z => by
      obtain ⟨v, H', I2, rz, q⟩ := z
      exact SlX.cmpback rz ⟨v, H', I2, rz, q⟩) fun _ _ e => e
  by_cases ne : C = D
  · subst ne
    exact PySem.W.binop_K hF I.ok.mod.kin J J'.type (B.sf C mC) hs hf (go _ I)
  · exact PySem.W.binop_two hF I.ok.mod.kin J J' ne (B.sf C mC) (B.sf D mD) hs (B.no C mC) hs' (B.no D mD) (B.rd D mD) (B.ms D mD) (by decide +kernel) (B.sub C mC D mD) hf (I.ok.hd cl) fun h' tk' k => go _ (I.kept (t' := tk') k)
/-- a call that lets nothing out -/
theorem pass_none : Passes (L2.CX X.prog X.w) X (fun _ _ _ => False) := fun pins σ H s e s' I c => by
  obtain ⟨a, B, sI, ps', σ1, H1, cls, d, _, _, _, _, _, _, _, _, w⟩ := XE.of_call (W := fun _ _ _ _ => False) I (fun _ _ _ h => h) c
  exact w.elim
theorem passAt_none (σ : L2.St) : PassesAt (L2.CX X.prog X.w) X σ (fun _ _ _ => False) := fun pins H s e s' I c => pass_none pins σ H s e s' I c
end
end Nb

set_option Elab.async false
set_option linter.all false
set_option maxRecDepth 100000
set_option maxHeartbeats 4000000
/-! ==, !=, bool and methods of objects whose class is one of several. -/
namespace PySem.W
open PySem PySem.Calls PyProof.Rows Builtin Builtin.ObjectAttr
section
variable {prog : Program} {w : World} {A : Around} {E : Value → Shared → Prop} {s : Shared} {K : Frag} {x y C D L f g : Addr} {h₀ : Heap} {m : Str → Option Value} {ox oy : Obj} {od od' : Option Obj}
theorem try_own {name : Str} {b : Value} {Q : Value → Shared → Prop} (X : K.In s.heap) (I : InstAt s.heap x ox C od) (hs : findIn K (.ref C) name = some (some (.ref f))) (hf : isFn K (.ref f) = true)
    (h : wpAny (model prog w) A (call (.ref f) [.ref x, b]) (CmpBack Q) E s) : wpAny (model prog w) A (tryCompare (.ref x) name b) (fun r s' => ∃ v, r = some v ∧ Q v s') E s := by
  unfold tryCompare
  refine wpAny_bind (ifBound_K X I hs hf (wpAny_mono h (fun v s' hv => ?_) fun _ _ e => e))
  cases v <;> first | exact hv.elim | exact wpAny_pure ⟨_, rfl, hv⟩
theorem try_ne {b : Value} {Q : Value → Shared → Prop} (hu : A.units + 1 < cLine) (X : K.In s.heap) (I : InstAt s.heap x ox C od) (hne : findIn K (.ref C) "__ne__" = some (some (.builtin "object.__ne__"))) (ho : subIn K (.ref C) (.type "object") = some true)
    (hs : findIn K (.ref C) "__eq__" = some (some (.ref f))) (hf : isFn K (.ref f) = true)
    (h : wpAny (model prog w) A.in1 (call (.ref f) [.ref x, b]) (fun v s' => ∃ r, v = .bool r ∧ Q (.bool (!r)) s') E s) : wpAny (model prog w) A (tryCompare (.ref x) "__ne__" b) (fun r s' => ∃ v, r = some v ∧ Q v s') E s := by
  have body : wpAny (model prog w) A.in1 (Builtin.«object.__ne__» ⟨[.ref x, b], []⟩) (fun fin s' => ∃ r, fin = .done (.ret (.bool (!r))) ∧ Q (.bool (!r)) s') E s := by
    unfold Builtin.«object.__ne__»
    refine wpAny_bind (wpAny_of_eq (a := ((Value.ref x : Value), [b])) (by first | rfl | (simp only [slotArgs]; rfl)) ?_)
    refine wpAny_bind (wpAny_cRoomFor (show A.in1.units < cLine from hu) ?_)
    refine wpAny_bind (ifBound_K X I hs hf (wpAny_mono h (fun v s' hv => ?_) fun _ _ e => e))
    obtain ⟨r, rfl, hq⟩ := hv
    exact wpAny_bind (wpAny_truthy_bool (wpAny_pure ⟨r, rfl, hq⟩))
  have called : wpAny (model prog w) A (call (.builtin "object.__ne__") [.ref x, b]) (fun v s' => ∃ r, v = .bool (!r) ∧ Q (.bool (!r)) s') E s := by
    refine wpAny_call (codeAny_call_builtin F.cmp_object.ne.plain F.cmpEntry_ne ?_)
    refine @check_slot (model prog w) _ _ s "object.__ne__" "object" "__ne__" (.ref x) [b] [] _ F.cmpKind_ne F.cmpSplit_ne (I.type.andThen (looks_subIn X ho)) (F.cmpArgs_ne _ _) ?_
    refine wpAny_mono body (fun fin s' z => ?_) fun _ _ e => e
    obtain ⟨r, rfl, hq⟩ := z
    exact ⟨r, rfl, hq⟩
  unfold tryCompare
  refine wpAny_bind ?_
  simp only [callSpecialIfBound?, bindSpecialIfBound?]
  refine wpAny_holding (wpAny_bind (wpAny_bind (wpAny_bind (I.type.here ((looks_findIn X hne).here ?_)))))
  simp only [F.cmp_object.ne.bind]
  have fin : wpAny (model prog w) A (call (.builtin "object.__ne__") ([.ref x] ++ [b]) >>= fun v => pure (some v)) (fun r s' => wpAny (model prog w) A (match r with | some .notImplemented | none => pure none | some v => pure (some v)) (fun r s' => ∃ v, r = some v ∧ Q v s') E s') E s :=
    wpAny_bind (wpAny_mono called (fun v s' z => by
      obtain ⟨r, rfl, hq⟩ := z
      exact wpAny_pure (wpAny_pure ⟨_, rfl, hq⟩)) fun _ _ e => e)
  refine wpAny_bind (wpAny_askSetting (wpAny_ite ?_))
  split
  · exact wpAny_bind (wpAny_pure (wpAny_pure fin))
  · exact wpAny_tryCatch (wpAny_bind (wpAny_pure (wpAny_pure fin)))
theorem rich_two {op : CmpOp} {Q : Value → Shared → Prop} (hu : A.units < cLine) (X : K.In s.heap) (I : InstAt s.heap x ox C od) (J : InstAt s.heap y oy D od') (hsub : ∃ b, subIn K (.ref D) (.ref C) = some b)
    (t1 : wpAny (model prog w) A (tryCompare (.ref x) (cmpInfo op).2.1 (.ref y)) (fun r s' => ∃ v, r = some v ∧ Q v s') E s)
    (t2 : wpAny (model prog w) A (tryCompare (.ref y) (cmpInfo op).2.2 (.ref x)) (fun r s' => ∃ v, r = some v ∧ Q v s') E s) : wpAny (model prog w) A (richCompare op (.ref x) (.ref y)) Q E s := by
  obtain ⟨b, hsub⟩ := hsub
  unfold richCompare
  simp only [oneThing_ref]
  refine wpAny_holding (wpAny_bind (wpAny_cRoomFor hu ?_))
  refine wpAny_bind (I.type.here (wpAny_bind (J.type.here ?_)))
  split
  · refine wpAny_bind ((looks_subIn X hsub).here ?_)
    cases b
    · simp only [Bool.false_eq_true, if_false]
      refine wpAny_bind (wpAny_mono t1 (fun r s' z => ?_) fun _ _ e => e)
      obtain ⟨v, rfl, hq⟩ := z
      exact wpAny_pure hq
    · simp only [if_true]
      refine wpAny_bind (wpAny_mono t2 (fun r s' z => ?_) fun _ _ e => e)
      obtain ⟨v, rfl, hq⟩ := z
      exact wpAny_bind (wpAny_rule (wpAny_pure hq))
  · refine wpAny_bind (wpAny_pure ?_)
    simp only [Bool.false_eq_true, if_false]
    refine wpAny_bind (wpAny_mono t1 (fun r s' z => ?_) fun _ _ e => e)
    obtain ⟨v, rfl, hq⟩ := z
    exact wpAny_pure hq
end
end PySem.W
namespace Nb
open PySem PySem.Spec PyProof.Rows
open L2 hiding del del_ne del_same
section
variable {X : Cx} {CX : CXT} {n : Nat} {ps : List Str} {E : XK} {cs : List Addr} {sp : Addr → Sp}
/-- what == and != ask of some classes, each with an own __eq__ -/
structure Eqs (K : PySem.W.Frag) (cs : List Addr) : Prop where
  ne : ∀ C ∈ cs, PySem.W.findIn K (.ref C) "__ne__" = some (some (.builtin "object.__ne__"))
  ob : ∀ C ∈ cs, PySem.W.subIn K (.ref C) (.type "object") = some true
  sub : ∀ C ∈ cs, ∀ D ∈ cs, ∃ b, PySem.W.subIn K (.ref D) (.ref C) = some b
def eqsB (K : PySem.W.Frag) (cs : List Addr) : Bool := cs.all fun C => PySem.W.findIn K (.ref C) "__ne__" == some (some (.builtin "object.__ne__")) && (PySem.W.subIn K (.ref C) (.type "object") == some true && cs.all fun D => (PySem.W.subIn K (.ref D) (.ref C)).isSome)
theorem eqs_of {K : PySem.W.Frag} {cs : List Addr} (h : eqsB K cs = true) : Eqs K cs := by
  unfold eqsB at h
  simp only [List.all_eq_true, Bool.and_eq_true, beq_iff_eq] at h
  exact ⟨fun C m => (h C m).1, fun C m => (h C m).2.1, fun C m D m' => Option.isSome_iff_exists.mp ((h C m).2.2 D m')⟩
/-- x == y of objects of the classes cs: what either __eq__ answers -/
def rEqP (cs : List Addr) (sp : Addr → Sp) (E : XK) : R2 := fun x y H Q => ∃ a b C dx fs D dy gs, x = .ref a ∧ y = .ref b ∧ C ∈ cs ∧ D ∈ cs ∧ H a = some (.ins C dx fs) ∧ H b = some (.ins D dy gs) ∧
  sp C [.ref a, .ref b] H (fun v H' => ∃ c, v = .bl c ∧ Q (.bl c) H') E ∧ sp D [.ref b, .ref a] H (fun v H' => ∃ c, v = .bl c ∧ Q (.bl c) H') E
def rNeP (cs : List Addr) (sp : Addr → Sp) (E : XK) : R2 := fun x y H Q => rEqP cs sp E x y H fun v H' => ∃ c, v = .bl c ∧ Q (.bl (!c)) H'
theorem op_eqP (N : Eqs X.K cs) (O : ∀ C ∈ cs, Om X CX n C "__eq__" ps (sp C)) (hr : Room n X.A) (hx : Passes CX X E) : OpR X (compareOp .Eq) (rEqP cs sp E) := by
  intro pins s σ H x y v u Q I rx ry hq
  obtain ⟨a, b, C, dx, fs, D, dy, gs, rfl, rfl, mC, mD, ha, hb', h1, h2⟩ := hq
  obtain ⟨f, fd, hs, hf, hbn, F⟩ := (O C mC).ex
  obtain ⟨f', fd', hs', hf', hbn', F'⟩ := (O D mD).ex
  cases rx
  cases ry
  obtain ⟨mA, J, _⟩ := ins_get I.hok ha
  obtain ⟨mB, J', _⟩ := ins_get I.hok hb'
  obtain ⟨od, J, _⟩ := J.look
  obtain ⟨od', J', _⟩ := J'.look
  show wpAny (model X.prog X.w) X.A (richCompare .Eq (.ref a) (.ref b)) (EP X pins σ Q) X.xe s
  have back : ∀ {r s'}, EP X pins σ (fun v H' => ∃ c, v = .bl c ∧ Q (.bl c) H') r s' → PySem.W.CmpBack (EP X pins σ Q) r s' := fun {r s'} z => by
    obtain ⟨v, H', I', rz, c, ez, q⟩ := z
    subst ez
    cases rz
    exact ⟨.bl c, H', I', rfl, q⟩
  refine PySem.W.rich_two hr.units0 I.kIn J J' (N.sub C mC D mD) (PySem.W.try_own I.kIn J hs hf ?_) (PySem.W.try_own I.kIn J' hs' hf' ?_)
  · exact wpAny_mono (own_run (vs := [.ref a, .ref b]) F hbn hx ⟨hr, rfl⟩ I (.cons rfl (.cons rfl .nil)) h1) (fun r s' z => back z) fun _ _ e => e
  · exact wpAny_mono (own_run (vs := [.ref b, .ref a]) F' hbn' hx ⟨hr, rfl⟩ I (.cons rfl (.cons rfl .nil)) h2) (fun r s' z => back z) fun _ _ e => e
theorem op_neP (N : Eqs X.K cs) (O : ∀ C ∈ cs, Om X CX n C "__eq__" ps (sp C)) (hr : Room (n + 1) X.A) (hu : X.A.units + 1 < cLine) (hx : Passes CX X E) : OpR X (compareOp .NotEq) (rNeP cs sp E) := by
  intro pins s σ H x y v u Q I rx ry hq
  obtain ⟨a, b, C, dx, fs, D, dy, gs, rfl, rfl, mC, mD, ha, hb', h1, h2⟩ := hq
  obtain ⟨f, fd, hs, hf, hbn, F⟩ := (O C mC).ex
  obtain ⟨f', fd', hs', hf', hbn', F'⟩ := (O D mD).ex
  cases rx
  cases ry
  obtain ⟨mA, J, _⟩ := ins_get I.hok ha
  obtain ⟨mB, J', _⟩ := ins_get I.hok hb'
  obtain ⟨od, J, _⟩ := J.look
  obtain ⟨od', J', _⟩ := J'.look
  show wpAny (model X.prog X.w) X.A (richCompare .NotEq (.ref a) (.ref b)) (EP X pins σ Q) X.xe s
  have back : ∀ {r s'}, EP X pins σ (fun v H' => ∃ c, v = .bl c ∧ ∃ c2, V.bl c = .bl c2 ∧ Q (.bl (!c2)) H') r s' → ∃ r', r = .bool r' ∧ EP X pins σ Q (.bool (!r')) s' := fun {r s'} z => by
    obtain ⟨v, H', I', rz, c, ez, c2, e2, q⟩ := z
    subst ez
    cases e2
    cases rz
    exact ⟨c, rfl, .bl (!c), H', I', rfl, q⟩
  have sb : L2.Sub X n X.A.in1 := L2.Sub.in1 ⟨hr, rfl⟩
  refine PySem.W.rich_two (Nat.lt_of_succ_lt hu) I.kIn J J' (N.sub C mC D mD) (PySem.W.try_ne hu I.kIn J (N.ne C mC) (N.ob C mC) hs hf ?_) (PySem.W.try_ne hu I.kIn J' (N.ne D mD) (N.ob D mD) hs' hf' ?_)
  · exact wpAny_mono (own_run (vs := [.ref a, .ref b]) F hbn hx sb I (.cons rfl (.cons rfl .nil)) h1) (fun r s' z => back z) fun _ _ e => e
  · exact wpAny_mono (own_run (vs := [.ref b, .ref a]) F' hbn' hx sb I (.cons rfl (.cons rfl .nil)) h2) (fun r s' z => back z) fun _ _ e => e
theorem bool_in {prog : Program} {w : World} (x : Value) : MeetsIn prog w (Builtin.«bool.__new__» ⟨[.type "bool", x], []⟩) (fun A R s => wpAny (model prog w) A.in1 (truthy x) (fun b s' => R (.ok (.ret (.bool b))) s') (fun e s' => R (.error e) s') s) :=
  .of_wp fun A R s h => by
    obtain ⟨hp, g, d, tk, os⟩ := s
    have f1 := PySem.F.conv_sub_bool
    wp_walk
    show wpAny (model prog w) A.in1 (truthy x) _ _ _
    refine wpAny_mono h (fun b s' z => ?_) fun _ _ z => z
    first | exact z | exact wpAny_pure z | exact ⟨_, rfl, z⟩ | (show wpAny _ _ _ _ _ _; wp_walk; first | exact z | exact ⟨_, rfl, z⟩)
theorem call_bool_own {prog : Program} {w : World} {A : Around} {E : Value → Shared → Prop} {s : Shared} {x : Value} {Q : Value → Shared → Prop} (h : wpAny (model prog w) A.in1.in1 (truthy x) (fun b s' => Q (.bool b) s') E s) : wpAny (model prog w) A (call (.type "bool") [x]) Q E s :=
  callType_newIn PySem.F.called_bool PySem.F.newNe_bool (PySem.F.typeCall_bool_1 x) (PySem.F.newCall_bool_1 x) (fun obj => PySem.F.args_object_init_2 obj x) PySem.F.entry_bool_new (bool_in x)
    (wpAny_mono h (fun b s' z => ⟨rfl, z⟩) fun _ _ z => z)
/-- bool(x) by the own __bool__ -/
theorem call_boolO (O : ∀ C ∈ cs, Om X CX n C "__bool__" ps (sp C)) (hr : Room (n + 2) X.A) (hx : Passes CX X E) : CallR X (.type "bool") (fun xs H Q => ∃ a C dx fs, xs = [.ref a] ∧ C ∈ cs ∧ H a = some (.ins C dx fs) ∧ sp C [.ref a] H (fun v H' => ∃ c, v = .bl c ∧ Q (.bl c) H') E) := by
  intro pins s σ H xs us Q I r h
  obtain ⟨a, C, dx, fs, rfl, mC, ha, h⟩ := h
  obtain ⟨f, fd, hs, hf, hbn, F⟩ := (O C mC).ex
  obtain ⟨u, rfl, rx⟩ := vals1 r
  cases rx
  obtain ⟨mA, J, _⟩ := ins_get I.hok ha
  obtain ⟨od, J, _⟩ := J.look
  obtain ⟨m, hF⟩ := I.fr
  refine call_bool_own (PySem.W.truthy_K hF I.ok.mod.kin J hs hf ?_)
  refine wpAny_mono (own_run (vs := [.ref a]) F hbn hx (L2.Sub.in1 (L2.Sub.in1 ⟨hr, rfl⟩)) I (.cons rfl .nil) h) (fun r s' z => ?_) fun _ _ e => e
  obtain ⟨v, H', I', rz, c, ez, q⟩ := z
  subst ez
  cases rz
  exact ⟨.bl c, H', I', rfl, q⟩
/-- x.m() where the class of x is one of cs -/
def tMethP (cs : List Addr) (m : Str) (sp : Addr → Sp) (E : XK) (ta : TE) : TE := fun σ H Q => ta σ H fun x H1 => ∃ a C dx fs, x = .ref a ∧ C ∈ cs ∧ H1 a = some (.ins C dx fs) ∧ fs.lookup m = none ∧ sp C [x] H1 Q E
theorem pe_MP {m : Str} {o : Expr} {ta : TE} {apos pos : Pos} {pl : Sem Bool} (D : ∀ C ∈ cs, Mn X.prog X.w X.K X.mg X.base CX n C m ps (sp C)) (c : ∀ C ∈ cs, Cls X.K C) (he : PE X o ta) (hr : Room n X.A) (hx : Passes CX X E)
    (ht : eval (.Call (.Attribute o m apos) [] [] pos) X.env = (do
      let ov ← eval o X.env
      standAt apos.atName
      let (f, first) ← holding [ov] (getMethod ov m pl)
      callWith pos f first (backTo pos (starEach [] X.env)) (backToKw pos (keywordEach [] X.env))) := by rfl) : PE X (.Call (.Attribute o m apos) [] [] pos) (tMethP cs m sp E ta) := by
  refine ⟨fun pins s σ H Q I h => ?_⟩
  refine PySem.W.methodCall_KW (pl := pl) (thn (he.run pins s σ H _ I h) fun u s1 ⟨x, H1, I1, rx, a, C, dx, fs, ex, mC, ea, l, q⟩ => ?_) ht
  subst ex
  obtain rfl : u = Value.ref a := rx
  obtain ⟨f, fd, M, b, F⟩ := (D C mC).ex
  refine getmeth_ok I1 ea (c C mC) M l ?_
  refine PySem.W.callWith_K0 I1.kIn M.kp ?_
  exact run_fn (us := [.ref a]) (vs := [.ref a]) (dvs := []) (ds := []) F hr b .nil hx I1 (.cons rfl .nil) q
theorem Om.up {C : Addr} {m : Str} {k : Nat} {sp : Sp} (O : Om X CX n C m ps sp) (h : n ≤ k) : Om X CX k C m ps sp := let ⟨f, fd, a, b, c, F⟩ := O.ex; ⟨f, fd, a, b, c, F.mono h⟩
theorem Mn.up {P : Program} {w : World} {K : PySem.W.Frag} {mg : Str → Option Value} {base : Heap} {C : Addr} {m : Str} {k : Nat} {sp : Sp} (O : Mn P w K mg base CX n C m ps sp) (h : n ≤ k) : Mn P w K mg base CX k C m ps sp := let ⟨f, fd, M, b, F⟩ := O.ex; ⟨f, fd, M, b, F.mono h⟩
end
end Nb
namespace Nb
open PySem
open L2 hiding del del_ne del_same
def tJoin (ts : List TE) : TE := fun σ H Q => tJs ts Str.empty σ H fun out H1 => Q (.str out) H1
theorem pe_joinedN {X : Cx} {v1 v2 : Expr} {rest : List Expr} {ts : List TE} {pos : Pos} (h : PJ X (v1 :: v2 :: rest) ts) : PE X (.JoinedStr (v1 :: v2 :: rest) pos) (tJoin ts) := pe_joined h
end Nb

set_option Elab.async false
set_option maxRecDepth 100000
set_option maxHeartbeats 4000000
/-! A tuple that tuple(..) makes, known to its object; t.index of such. -/
namespace Nb
open PySem PySem.Spec PyProof.Rows L2
/-- a tuple as it is made: no dict -/
def TupObj (o : Obj) : Prop := o.cls = .type "tuple" ∧ o.dict = none
theorem cr_tupleF {X : Cx} : CallR X (.type "tuple") (fun xs H Q => ∃ p ys, xs = [.ref p] ∧ SqL X.K H p ys ∧ ∀ l o, H l = none → TupObj o → Q (.ref l) (upd H l (.frz o (.tup ys)))) := by
  intro pins s σ H xs us Q I r h
  obtain ⟨p, ys, rfl, hq, q⟩ := h
  obtain ⟨u, rfl, rx⟩ := vals1 r
  cases rx
  obtain ⟨its, r', pl, hz⟩ := I.list hq
  have len := r'.length
  refine call_tuple_list pl.isList (fun h' kp => ?_) (by simp only [List.size_toArray]; omega)
  have I1 : Inv X pins σ H { s with heap := h' } := I.kept (t' := s.toks) kp
  have made : (h'.push { cls := .type "tuple", data := .seq its.toArray }).get? h'.objs.size = some { cls := .type "tuple", data := .seq its.toArray } := Heap.get?_push_size _ rfl
  have I2 : Inv X pins σ (upd H h'.objs.size (.frz { cls := .type "tuple", data := .seq its.toArray } (.tup ys))) { s with heap := h'.push { cls := .type "tuple", data := .seq its.toArray } } :=
    I1.laid (t' := s.toks) (fun b o e => Heap.get?_push_of_some _ e) (Nat.le_refl _) ⟨made, hz, its, r', IsTup.new _ _⟩
  exact ⟨.ref h'.objs.size, _, I2, rfl, q _ _ (I1.hok.fresh (Nat.le_refl _)) ⟨rfl, rfl⟩⟩
/-- t.index(e), t such a tuple of texts -/
def tTupIx (to : TE) (t : TA) : TE := fun σ H Q => to σ H fun x H1 => ∃ (p : Addr) (o : Obj) (ys : List Str), x = .ref p ∧ H1 p = some (.frz o (.tup (ys.map V.str))) ∧ TupObj o ∧ t σ H1 fun vs H2 =>
  ∃ (z : Str) (j : Nat), vs = [.str z] ∧ H2 p = some (.frz o (.tup (ys.map V.str))) ∧ ys[j]? = some z ∧ (∀ m, m < j → ys[m]? ≠ some z) ∧ Q (.int (j : Nat)) H2
theorem pe_tupIx {X : Cx} {o e : Expr} {to : TE} {t : TA} {apos cpos : Pos} (ho : PE X o to) (ha : PA X (e :: []) t)
    (hbase : attributeBase o "index" X.env (eval o X.env) = eval o X.env := by rfl)
    (hfew : ((backTo cpos (starEach (e :: []) X.env)).all (fun x => !x.1) && (backToKw cpos (keywordEach [] X.env)).all (fun x => x.1.isSome)
      && decide ((e :: ([] : List Expr)).length + ([] : List Keyword).length + (if ([] : List Keyword).isEmpty then 0 else 1) < 30)) = true := by rfl)
    (hline : (apos.endLine == cpos.line) = true := by rfl) (hs : starEach (e :: []) X.env = (false, eval e X.env) :: starEach [] X.env := by rfl) (hplain : (backTo cpos (starEach [] X.env)).any (·.1) = false := by rfl) :
    PE X (.Call (.Attribute o "index" apos) (e :: []) [] cpos) (tTupIx to t) := by
  refine ⟨fun pins s σ H Q I h => ?_⟩
  refine wpAny_Call_method_late hbase hfew hline rfl (thn (ho.run pins s σ H _ I h) fun v s1 ⟨x, H1, I1, r1, p, ob, ys, ex, ep, to', q1⟩ => ?_)
  subst ex
  cases r1
  obtain ⟨hget, _⟩ := (show ObjOk X.prog X.w H1 s1.heap p (.frz ob (.tup (ys.map V.str))) from I1.hok p _ ep)
  refine ⟨"tuple", "tuple.index", PySem.F.plainAttrs_tuple, PySem.F.slot_tuple_index, PySem.F.type_tuple_index, ⟨ob, hget, to'.1⟩, fun a e2 => by
    cases e2
    exact ⟨ob, hget, to'.2⟩, ?_⟩
  have hA := ha.run cpos pins s1 σ H1 _ I1 q1
  rw [hs] at hA ⊢
  refine Calls.callWith_builtin (by show (false || (backTo cpos (starEach [] X.env)).any (·.1)) = false; rw [hplain]; rfl) (Calls.evalArgs_plain ?_)
  exact thn hA fun us s2 ⟨vs, H2, I2, r2, z, j, ev, ep2, hy, hno, q⟩ => mt_tup_index pins s2 σ H2 (.ref p) vs (.ref p) us Q I2 rfl r2 ⟨p, ys, z, j, rfl, ev, .inl (.inr ⟨ob, ep2⟩), hy, hno, q⟩
end Nb

set_option Elab.async false
set_option maxRecDepth 100000
set_option maxHeartbeats 4000000
/-! Data in the heap, cut and added; data beside the source of numbers; methods, as data. -/
namespace Nb
open PySem L2
theorem noPart {σ : St} {H : Hp} {Q : Option Int → Hp → Prop} (h : Q none H) : tNoPart σ H Q := h
theorem cut_whole {xs : List V} {lo hi : Option Int} (h : HT.sIx xs.length 0 lo = 0 ∧ HT.sIx xs.length xs.length hi = xs.length) : cutV xs lo hi = xs := by
  unfold cutV
  rw [h.1, h.2]
  simp
theorem cutS_tup {K : PySem.W.Frag} {H : Hp} {a : Addr} {xs : List V} {lo hi : Option Int} {Q : VK} (ha : SqT K H a xs) (h : ∀ p H', Same H H' → SqT K H' p (cutV xs lo hi) → Q (.ref p) H') : rSlA K (.ref a) lo hi H Q :=
  ⟨a, xs, rfl, ha, fun w => h a H (Same.refl H) (by rw [cut_whole w]; exact ha), fun _ p hp => h p _ (same_new hp) (SqT.of upd_same)⟩
theorem cutT_tup {K : PySem.W.Frag} {H : Hp} {a : Addr} {xs : List V} {lo hi : Option Int} {Q : VK} (ha : H a = some (.tup xs)) (h : ∀ p H', Same H H' → H' p = some (.tup (cutV xs lo hi)) → Q (.ref p) H') : rSlA K (.ref a) lo hi H Q :=
  ⟨a, xs, rfl, SqT.of ha, fun w => h a H (Same.refl H) (by rw [cut_whole w]; exact ha), fun _ p hp => h p _ (same_new hp) upd_same⟩
theorem catT_tup {K : PySem.W.Frag} {H : Hp} {a b : Addr} {xs ys : List V} {Q : VK} (ha : H a = some (.tup xs)) (hb : H b = some (.tup ys)) (hl : xs.length + ys.length ≤ 2000) (h : ∀ p H', Same H H' → H' p = some (.tup (xs ++ ys)) → Q (.ref p) H') : rCatA K (.ref a) (.ref b) H Q := by
  refine ⟨a, b, xs, ys, rfl, rfl, SqT.of ha, SqT.of hb, Nat.le_trans hl (by decide), fun e => ?_, fun _ e => ?_, fun _ _ p hp => h p _ (same_new hp) upd_same⟩
  · subst e
    exact h b H (Same.refl H) hb
  · subst e
    exact h a H (Same.refl H) (by rw [List.append_nil]; exact ha)
/-- all steps of the rows, as a new list -/
def Tq (H : Hp) (n : Nat) (v : V) : Prop := ∃ d, Td H n v d
theorem tq_same {H H' : Hp} (s : Same H H') {n : Nat} {v : V} (h : Tq H n v) : Tq H' n v := let ⟨d, k⟩ := h; ⟨d, td_same s k⟩
theorem tq_up {H : Hp} {n : Nat} {v : V} (h : Tq H n v) : Tq H (n + 1) v := let ⟨d, k⟩ := h; ⟨d, td_up k⟩
theorem tq_le {H : Hp} {v : V} {n : Nat} (h : Tq H n v) : ∀ k, Tq H (n + k) v
  | 0 => h
  | k + 1 => tq_up (tq_le h k)
theorem tq_tup {H : Hp} {n : Nat} {a : Addr} {xs : List V} (e : H a = some (.tup xs)) (l : xs.length ≤ 1000) (h : ∀ v ∈ xs, Tq H n v) : Tq H (n + 1) (.ref a) := let ⟨_, k⟩ := tds_ex h; ⟨_, .tup e l k⟩
theorem tq_lst {H : Hp} {n : Nat} {a : Addr} {xs : List V} (e : H a = some (.lst xs)) (l : xs.length ≤ 1000) (h : ∀ v ∈ xs, Tq H n v) : Tq H (n + 1) (.ref a) := let ⟨_, k⟩ := tds_ex h; ⟨_, .lst e l k⟩
theorem cut_sub (xs : List V) (lo hi : Option Int) : (cutV xs lo hi).Sublist xs := by
  unfold cutV
  exact (List.take_sublist _ _).trans (List.drop_sublist _ _)
theorem upd_of {H : Hp} {a : Addr} {o : HO} (h : H a = none) : (upd H a o) a = some o := upd_same
theorem eqv_nilT (ds : List PyData) : PyData.eqv (.tuple ds) (.tuple []) = ds.isEmpty := by
  cases ds <;> simp [PyData.eqv, PyData.eqvAll]
theorem del_tup {H : Hp} {p a : Addr} {b : Nat} {xs : List V} (S : Src H p b) (e : H a = some (.tup xs)) : del H p a = some (.tup xs) := by
  rw [del_ne (src_ne S e (fun xs z => by cases z))]
  exact e
theorem del_lstS {H : Hp} {p a : Addr} {b : Nat} {x : Str} {xs : List V} (S : Src H p b) (e : H a = some (.lst (.str x :: xs))) : del H p a = some (.lst (.str x :: xs)) := by
  have n : a ≠ p := fun z => by
    obtain ⟨c, m, r, e2, _⟩ := S
    rw [z, e2] at e
    cases e
  rw [del_ne n]
  exact e
theorem del_up {H H' : Hp} {p : Addr} (s : Same H H') : Same (del H p) (del H' p) := same_del (del_same.trans s) del_at
section
variable {H : Hp} {n : Nat} {a : Addr} {u v w x : V}
theorem tqS {z : Str} (h : Word z) : Tq H n (.str z) := ⟨_, .str h⟩
theorem tqI (i : Int) : Tq H n (.int i) := ⟨_, .int i⟩
theorem tqN : Tq H n .non := ⟨_, .non⟩
theorem tqB (b : Bool) : Tq H n (.bl b) := ⟨_, .bl b⟩
theorem tq0 (e : H a = some (.tup [])) : Tq H (n + 1) (.ref a) := ⟨_, .tup e (by decide) .nil⟩
theorem tq2 (e : H a = some (.tup [u, v])) (h1 : Tq H n u) (h2 : Tq H n v) : Tq H (n + 1) (.ref a) := let ⟨_, k1⟩ := h1; let ⟨_, k2⟩ := h2; ⟨_, .tup e (by show 2 ≤ 1000; decide) (.cons k1 (.cons k2 .nil))⟩
theorem tq3 (e : H a = some (.tup [u, v, w])) (h1 : Tq H n u) (h2 : Tq H n v) (h3 : Tq H n w) : Tq H (n + 1) (.ref a) := let ⟨_, k1⟩ := h1; let ⟨_, k2⟩ := h2; let ⟨_, k3⟩ := h3; ⟨_, .tup e (by show 3 ≤ 1000; decide) (.cons k1 (.cons k2 (.cons k3 .nil)))⟩
theorem tq4 (e : H a = some (.tup [u, v, w, x])) (h1 : Tq H n u) (h2 : Tq H n v) (h3 : Tq H n w) (h4 : Tq H n x) : Tq H (n + 1) (.ref a) := let ⟨_, k1⟩ := h1; let ⟨_, k2⟩ := h2; let ⟨_, k3⟩ := h3; let ⟨_, k4⟩ := h4; ⟨_, .tup e (by show 4 ≤ 1000; decide) (.cons k1 (.cons k2 (.cons k3 (.cons k4 .nil))))⟩
theorem tl1 (e : H a = some (.lst [u])) (h1 : Tq H n u) : Tq H (n + 1) (.ref a) := let ⟨_, k1⟩ := h1; ⟨_, .lst e (by show 1 ≤ 1000; decide) (.cons k1 .nil)⟩
theorem tl3 (e : H a = some (.lst [u, v, w])) (h1 : Tq H n u) (h2 : Tq H n v) (h3 : Tq H n w) : Tq H (n + 1) (.ref a) := let ⟨_, k1⟩ := h1; let ⟨_, k2⟩ := h2; let ⟨_, k3⟩ := h3; ⟨_, .lst e (by show 3 ≤ 1000; decide) (.cons k1 (.cons k2 (.cons k3 .nil)))⟩
end
theorem td_mono {H : Hp} {n : Nat} {x : V} {d : PyData} (h : Td H n x d) : ∀ k, Td H (n + k) x d
  | 0 => h
  | k + 1 => td_up (td_mono h k)
theorem tds_items {K : PySem.W.Frag} {H : Hp} : ∀ {n : Nat} {xs : List V} {ds : List PyData}, n ≤ 8 → Tds H n xs ds → ∀ y ∈ xs, Item K H y
  | _, _, _, _, .nil, _, hy => by cases hy
  | n, _, _, l, .cons h t, y, hy => by
    rcases List.mem_cons.mp hy with rfl | hy
    · have k := td_dp (K := K) h
      exact ⟨td_known h, _, k.1, k.2.1, Nat.le_trans k.2.2 l⟩
    · exact tds_items l t y hy
theorem td_thing {K : PySem.W.Frag} {H : Hp} {n : Nat} {x : V} {d : PyData} (l : n ≤ 8) (h : Td H n x d) : Thing K H x := by
  cases h with
  | non => exact thing_flat (fun a e => by cases e) (.base .non) (by decide +kernel)
  | bl b => exact thing_flat (fun a e => by cases e) (.base (.bl b)) (by decide +kernel)
  | int i => exact thing_flat (fun a e => by cases e) (.base (.int i)) (by decide +kernel)
  | str h => exact thing_str _
  | lst e _ _ => exact thing_lst e
  | tup e le ts => exact .inl ⟨_, _, rfl, .inl e, le, tds_items (by omega) ts⟩
/-! methods -/
def strsD (ds : List PyData) : List Str := ds.filterMap fun | .str z => some z | _ => none
def rowD : PyData → Bool
  | .tuple ds => ds.all nmD && decide (((seen (strsD ds)).length : Int) = ds.length) && decide ((ds.length : Int) ≤ 4)
  | _ => false
def wordsD : PyData → Bool
  | .tuple ds => ds.all nmD && decide ((ds.length : Int) ≤ 4)
  | _ => false
def nilD : PyData → Bool
  | .tuple [] => true
  | _ => false
def methD : PyData → Bool
  | .tuple [t, b, .none, a] => rowD t && wordsD b && wordsD a && nilD a
  | .tuple [t, b, p, a] => rowD t && wordsD b && wordsD a && rowD p
  | _ => false
theorem td_nm {H : Hp} {n : Nat} {x : V} {d : PyData} (h : Td H n x d) : nameV x = nmD d := by
  cases h <;> rfl
theorem tds_nms {H : Hp} : ∀ {n : Nat} {xs : List V} {ds : List PyData}, Tds H n xs ds → xs.all nameV = ds.all nmD ∧ strsOf xs = strsD ds
  | _, _, _, .nil => ⟨rfl, rfl⟩
  | _, _, _, .cons (x := x) (d := d) h t => by
    obtain ⟨i1, i2⟩ := tds_nms t
    refine ⟨by rw [List.all_cons, List.all_cons, i1, td_nm h], ?_⟩
    cases h <;> simp [strsOf, strsD] at i2 ⊢ <;> exact i2
theorem tupOf_lst {H : Hp} {a : Addr} {xs : List V} (h : H a = some (.lst xs)) : tupOf H (.ref a) = none := by
  show (match H a with | some (.tup xs) => some xs | some (.frz _ (.tup xs)) => some xs | _ => none) = none
  rw [h]
def namesD : PyData → Bool
  | .tuple ds => ds.all nmD
  | _ => false
theorem td_row {H : Hp} {n : Nat} {x : V} {d : PyData} (h : Td H n x d) : rowV H x = rowD d := by
  cases h with
  | tup e l ts =>
    unfold rowV
    rw [tupOf_at (.inl e)]
    obtain ⟨i1, i2⟩ := tds_nms ts
    show (diffV _ && _) = _
    unfold diffV
    rw [i1, i2, tds_len ts]
    rfl
  | lst e l ts =>
    unfold rowV
    rw [tupOf_lst e]
    rfl
  | _ => rfl
theorem td_names {H : Hp} {n : Nat} {x : V} {d : PyData} (h : Td H n x d) : namesV H x = namesD d := by
  cases h with
  | tup e l ts =>
    unfold namesV
    rw [tupOf_at (.inl e)]
    exact (tds_nms ts).1
  | lst e l ts =>
    unfold namesV
    rw [tupOf_lst e]
    rfl
  | _ => rfl
end Nb

set_option Elab.async false
set_option maxRecDepth 100000
set_option maxHeartbeats 4000000
/-! repr of small data, where no repr is under way. -/
namespace Nb
open PySem L2
def okR (w : Nat) (d : PyData) : Prop := d.showable = true ∧ d.intsShort 13 = true ∧ d.weight ≤ w
/-- small data: w is its weight at most -/
def Tw (H : Hp) (n w : Nat) (v : V) : Prop := ∃ d, Td H n v d ∧ okR w d
section
variable {H H' : Hp} {n w : Nat} {v : V}
theorem tw_same (s : Same H H') (h : Tw H n w v) : Tw H' n w v := let ⟨d, k, o⟩ := h; ⟨d, td_same s k, o⟩
theorem tw_up (h : Tw H n w v) (k : Nat) : Tw H (n + k) w v := let ⟨d, t, o⟩ := h; ⟨d, td_mono t k, o⟩
theorem tw_mono (h : Tw H n w v) {u : Nat} (l : w ≤ u) : Tw H n u v := let ⟨d, t, o⟩ := h; ⟨d, t, o.1, o.2.1, Nat.le_trans o.2.2 l⟩
theorem tw_non : Tw H n w .non := ⟨_, .non, rfl, rfl, by simp [PyData.weight]⟩
theorem tw_bl (b : Bool) : Tw H n w (.bl b) := ⟨_, .bl b, rfl, rfl, by simp [PyData.weight]⟩
theorem tw_str {z : Str} (h : Word z) (l : z.length ≤ w) : Tw H n w (.str z) := ⟨_, .str h, rfl, rfl, l⟩
theorem tw_int {i : Int} (h : okR w (.int i)) : Tw H n w (.int i) := ⟨_, .int i, h⟩
theorem tw_all : ∀ {xs : List V}, (∀ x ∈ xs, Tw H n w x) → ∃ ds, Tds H n xs ds ∧ PyData.showableAll ds = true ∧ PyData.intsShortAll 13 ds = true ∧ PyData.weightAll ds ≤ (w + 1) * xs.length
  | [], _ => ⟨[], .nil, rfl, rfl, by simp [PyData.weightAll]⟩
  | x :: xs, h => by
    obtain ⟨d, t, o1, o2, o3⟩ := h x (List.mem_cons_self ..)
    obtain ⟨ds, ts, p1, p2, p3⟩ := tw_all (xs := xs) fun y hy => h y (List.mem_cons_of_mem _ hy)
    refine ⟨d :: ds, .cons t ts, by simp [PyData.showableAll, o1, p1], by simp [PyData.intsShortAll, o2, p2], ?_⟩
    simp only [PyData.weightAll, List.length_cons, Nat.mul_add]
    omega
theorem tw_tup {a : Addr} {xs : List V} (e : H a = some (.tup xs)) (l : xs.length ≤ 1000) (h : ∀ x ∈ xs, Tw H n w x) : Tw H (n + 1) ((w + 1) * xs.length) (.ref a) := by
  obtain ⟨ds, t, p1, p2, p3⟩ := tw_all h
  exact ⟨.tuple ds, .tup e l t, by simpa [PyData.showable] using p1, by simpa [PyData.intsShort] using p2, by simpa [PyData.weight] using p3⟩
theorem tw_lst {a : Addr} {xs : List V} (e : H a = some (.lst xs)) (l : xs.length ≤ 1000) (h : ∀ x ∈ xs, Tw H n w x) : Tw H (n + 1) ((w + 1) * xs.length) (.ref a) := by
  obtain ⟨ds, t, p1, p2, p3⟩ := tw_all h
  exact ⟨.list ds, .lst e l t, by simpa [PyData.showable] using p1, by simpa [PyData.intsShort] using p2, by simpa [PyData.weight] using p3⟩
end
theorem td_hasDict {H : Hp} : ∀ {n : Nat} {x : V} {d : PyData}, Td H n x d → d.hasDict = false := fun h => PyData.hasDict_of_canLay _ (td_dp (K := []) h).2.1
/-- repr of small data -/
theorem cr_reprD {X : Cx} (g : X.A.guards = some []) (u : X.A.units + 100 < cLine) : CallR X (.builtin "repr") (fun xs H Q => ∃ (x : V) (d : PyData) (n : Nat), xs = [x] ∧ Td H n x d ∧ n ≤ 60 ∧ okR (2 ^ 20) d ∧ Q (.str d.shown) H) := by
  intro pins s σ H xs us Q I r h
  obtain ⟨x, d, n, rfl, hd, hn, o, q⟩ := h
  obtain ⟨v, rfl, rv⟩ := vals1 r
  obtain ⟨k1, k2, k3⟩ := td_dp (K := X.K) hd
  obtain ⟨as, rd⟩ := Dp.reads I d x v k1 rv
  have lay : PyData.layable0 d = true := by
    unfold PyData.layable0
    rw [k2, decide_eq_true (show d.depth ≤ 64 by omega), decide_eq_true o.2.2]
    rfl
  have sz : d.shown.length ≤ sizeLine := Nat.le_trans (PyProof.Rows.shown_le13 lay o.2.1) (by decide)
  have nd := td_hasDict hd
  have byRef : ∀ a : Addr, v = .ref a → wpAny (model X.prog X.w) X.A (call (.builtin "repr") [v]) (EP X pins σ Q) X.xe s := fun a e => by
    subst e
    exact repr_of_reads' rd o.1 (fun z => by rw [nd] at z; cases z) g (by omega) (fun _ _ e => e) (fun h' t tk hk => ⟨.str d.shown, H, I.kept (t' := tk) hk, ⟨_, rfl⟩, q⟩) sz
  cases hd with
  | non =>
    cases (show v = Value.none from rv)
    exact PySem.P.repr_of_none ⟨.str _, H, I.tok _, ⟨_, rfl⟩, q⟩
  | bl b =>
    cases (show v = Value.bool b from rv)
    exact PySem.P.repr_of_bool ⟨.str _, H, I.tok _, ⟨_, rfl⟩, q⟩
  | int i =>
    obtain ⟨t, rfl⟩ := rv
    exact PySem.P.repr_of_int (of_decide_eq_true o.1) ⟨.str _, H, I.tok _, ⟨_, rfl⟩, q⟩
  | str z =>
    obtain ⟨t, rfl⟩ := rv
    exact PySem.P.repr_of_str ⟨.str _, H, I.tok _, ⟨_, rfl⟩, q⟩ sz
  | lst e l ts => exact byRef _ rv
  | tup e l ts => exact byRef _ rv
/-- repr of small data, or of an empty dict -/
theorem cr_reprX {X : Cx} (g : X.A.guards = some []) (u : X.A.units + 100 < cLine) : CallR X (.builtin "repr") (fun xs H Q => (∃ (x : V) (d : PyData) (n : Nat), xs = [x] ∧ Td H n x d ∧ n ≤ 60 ∧ okR (2 ^ 20) d ∧ Q (.str d.shown) H) ∨
    ∃ a, xs = [.ref a] ∧ H a = some (.dK []) ∧ Q (.str (PyData.dict []).shown) H) := by
  intro pins s σ H xs us Q I r h
  rcases h with h | ⟨a, rfl, e, q⟩
  · exact cr_reprD g u pins s σ H xs us Q I r h
  · obtain ⟨v, rfl, rv⟩ := vals1 r
    cases rv
    have ho : ObjOk X.prog X.w H s.heap a (.dK []) := I.hok a _ e
    obtain ⟨_, nm, vs, kv, o, es, ep, e1, e2, e3, _, e5, _⟩ := ho
    cases kv
    have e6 : es.toList = [] := by
      cases hz : es.toList with
      | nil => rfl
      | cons z zs =>
        rw [hz] at e5
        cases e5
    have rd : Reads s.heap (.ref a) (.dict []) (a :: [] ++ []) := .dict e1 e2.1 e3 (by rw [e6]; exact .nil) (by rw [e6]; exact .nil)
    have dz : (PyData.dict []).depth ≤ 10 := by decide +kernel
    refine repr_of_reads' rd rfl (fun _ hm => ?_) g (by omega) (fun _ _ e => e) (fun h' t tk hk => ⟨.str _, H, I.kept (t' := tk) hk, ⟨_, rfl⟩, q⟩) (by decide +kernel)
    have : sysModules = a := by simpa using hm
    rw [this] at nm
    simp at nm
end Nb

set_option Elab.async false
set_option maxRecDepth 100000
set_option maxHeartbeats 4000000
/-! t[::-1], t a tuple; tuples cut and added, whichever object comes back. -/
namespace Nb
open PySem PySem.Spec PyProof.Rows L2 HT
section
variable {prog : Program} {w : World} {A : Around} {E : Value → Shared → Prop} {s : Shared}
theorem applied_back {sl : Addr} {vl vu vs : Value} {n : Nat} {Q : Int × Int × Nat → Shared → Prop} (hs : s.heap.IsSliceOf sl vl vu vs) (pl : IsPart vl none) (pu : IsPart vu none) (ps : IsPart vs (some (-1)))
    (h : Q ((n : Int) - 1, -1, n) s) : wpAny (model prog w) A (Builtin.Slice.sliceApplied (.ref sl) (pure (n : Int))) Q E s := by
  obtain ⟨os, hos, hcs, hds⟩ := id hs
  unfold Builtin.Slice.sliceApplied Builtin.Slice.sliceFields
  refine wpAny_bind (wpAny_bind (wpAny_field hos hds (x := vl) rfl (wpAny_bind (wpAny_field hos hds (x := vu) rfl (wpAny_bind (wpAny_field hos hds (x := vs) rfl (wpAny_pure ?_)))))))
  refine wpAny_bind (slicePart_ ps ?_)
  show wpAny _ _ (if ((-1 : Int) == 0) = true then _ else _) _ _ s
  rw [if_neg (by decide)]
  refine wpAny_bind (slicePart_ pl (wpAny_bind (slicePart_ pu (wpAny_bind (wpAny_pure ?_)))))
  have e1 : Builtin.Slice.sliceAdjust none none (-1) (n : Int) = ((n : Int) - 1, -1) := by
    unfold Builtin.Slice.sliceAdjust
    simp
  have e2 : Builtin.Slice.slicePlaces ((n : Int) - 1) (-1) (-1) = n := by
    unfold Builtin.Slice.slicePlaces
    simp
    omega
  show wpAny _ _ (match Builtin.Slice.sliceAdjust none none (-1) (n : Int) with | (lo, hi) => pure (lo, (-1 : Int), Builtin.Slice.slicePlaces lo hi (-1))) _ _ s
  rw [e1]
  show wpAny _ _ (pure ((n : Int) - 1, (-1 : Int), Builtin.Slice.slicePlaces ((n : Int) - 1) (-1) (-1))) _ _ s
  rw [e2]
  exact wpAny_pure h
theorem pick_back (xs : Array Value) : ((List.range xs.size).filterMap fun (m : Nat) => xs[((xs.size : Int) - 1 + (m : Int) * -1).toNat]?).toArray = xs.toList.reverse.toArray := by
  congr 1
  apply List.ext_getElem?
  intro i
  have e : ∀ k, k ≤ xs.size → (List.range k).filterMap (fun (m : Nat) => xs[((xs.size : Int) - 1 + (m : Int) * -1).toNat]?) = (xs.toList.reverse).take k := by
    intro k
    induction k with
    | zero => intro _; rfl
    | succ k ih =>
      intro hk
      have hlt : xs.size - 1 - k < xs.size := by omega
      have ix : ((xs.size : Int) - 1 + (k : Int) * -1).toNat = xs.size - 1 - k := by omega
      rw [List.range_succ, List.filterMap_append, ih (by omega), List.take_add_one]
      congr 1
      simp only [List.filterMap_cons, List.filterMap_nil, ix]
      rw [Array.getElem?_eq_getElem hlt, List.getElem?_reverse (by simp; omega)]
      simp [hlt]
  rw [e xs.size (Nat.le_refl _), List.take_of_length_le (by simp)]
theorem getItem_back {t sl : Addr} {items : Array Value} {vl vu vs : Value} {Q : Value → Shared → Prop} (ht : IsTup s.heap t items) (hs : s.heap.IsSliceOf sl vl vu vs) (pl : IsPart vl none) (pu : IsPart vu none) (ps : IsPart vs (some (-1)))
    (h : Q (.ref s.heap.objs.size) { s with heap := s.heap.push { cls := .type "tuple", data := .seq items.toList.reverse.toArray } }) (hsz : items.size ≤ sizeLine) : wpAny (model prog w) A (getItem (.ref t) (.ref sl)) Q E s := by
  have fits : sizeOk (.seq items.toList.reverse.toArray) := by
    show items.toList.reverse.toArray.size ≤ sizeLine
    rw [List.size_toArray, List.length_reverse, Array.length_toList]
    exact hsz
  obtain ⟨os, hos, hcs, hds⟩ := id hs
  unfold getItem
  try with_reducible refine wpAny_holding ?_
  first | refine wpAny_bind (wpAny_pure ?_) | skip
  refine wpAny_bind (wpAny_sequenceKey ht.typeIs (by decide) ?_)
  refine wpAny_bind (wpAny_callSpecial?_slot (name := Str.ofString "__getitem__") ht.typeIs PyProof.Rows.slot_tuple_getitem (wpAny_call_entry PyProof.Rows.slot_tuple_getitem ht.typeIs entry_tuple_getitem ?_ (args_tuple_getitem _ _)))
  show wpAny _ _ (Builtin.Tuple.tupleItemsOf (.ref t) >>= _) _ _ s
  refine wpAny_bind (tupleItemsOf_ ht (wpAny_bind (wpAny_typeOf ⟨os, hos, hcs⟩ ?_)))
  rw [if_pos (by decide)]
  refine wpAny_bind (applied_back hs pl pu ps ?_)
  have no : ¬ ((((items.size : Int) - 1) == 0 && (-1 : Int) == 1 && items.size == items.size) = true) := by
    intro q
    rw [Bool.and_eq_true, Bool.and_eq_true] at q
    exact absurd q.1.2 (by decide)
  show wpAny _ _ (if (((items.size : Int) - 1) == 0 && (-1 : Int) == 1 && items.size == items.size) = true then _ else _) _ _ s
  rw [if_neg no, pick_back]
  first
    | exact wpAny_bind (m := Builtin.Tuple.tupleExact _) (wpAny_newObj_type (wpAny_pure ⟨_, rfl, wpAny_pure h⟩) fits)
    | exact wpAny_bind (m := Builtin.Tuple.tupleExact _) (wpAny_newObj_type (wpAny_bind (wpAny_pure (wpAny_pure ⟨_, rfl, wpAny_pure h⟩))) fits)
    | exact wpAny_bind (wpAny_bind (m := Builtin.Tuple.tupleExact _) (wpAny_newObj_type (wpAny_pure (wpAny_pure ⟨_, rfl, wpAny_pure h⟩)) fits))
    | exact wpAny_bind (wpAny_bind (m := Builtin.Tuple.tupleExact _) (wpAny_newObj_type (wpAny_pure ⟨_, rfl, wpAny_pure h⟩) fits))
end
def tRevT (K : PySem.W.Frag) (te : TE) : TE := fun σ H Q => te σ H fun x H1 => ∃ a xs, x = .ref a ∧ SqT K H1 a xs ∧ ∀ p, H1 p = none → Q (.ref p) (upd H1 p (.tup xs.reverse))
theorem pe_revT {X : Cx} {e : Expr} {te : TE} {k : Nat} {p1 p2 p3 pos : Pos} (he : PE X e te) : PE X (.Subscript e (.Slice none none (some (.UnaryOp .USub (.Constant (.int 1) k p1) p2)) p3) pos) (tRevT X.K te) := by
  refine ⟨fun pins s σ H Q I h => Subscript_ (thn (he.run pins s σ H _ I h) fun v s1 ⟨x, H1, I1, r1, q1⟩ => ?_)⟩
  obtain ⟨a, xs, rfl, hx, q⟩ := q1
  cases r1
  have back : PO X (some (.UnaryOp .USub (.Constant (.int 1) k p1) p2)) (tPart (tUn (rU fun i => .int (-i)) (tC (.int 1)))) := po_some (pe_un un_neg pe_int)
  refine wpAny_Slice (thn (po_none.run pins s1 σ H1 (fun o H2 => o = none ∧ H2 = H1) I1 ⟨rfl, rfl⟩) fun vl s2 ⟨l, H2, I2, pl, el, e2⟩ => ?_)
  subst el e2
  refine thn (po_none.run pins s2 σ H2 (fun o H3 => o = none ∧ H3 = H2) I2 ⟨rfl, rfl⟩) fun vu s3 ⟨u, H3, I3, pu, eu, e3⟩ => ?_
  subst eu e3
  refine thn (back.run pins s3 σ H3 (fun o H4 => o = some (-1) ∧ H4 = H3) I3 ⟨1, rfl, -1, rfl, rfl, rfl⟩) fun vs s4 ⟨o, H4, I4, ps, eo, e4⟩ => ?_
  subst eo e4
  have I5 : Inv X pins σ H4 { s4 with heap := s4.heap.push { cls := .type "slice", data := .fields #[vl, vu, vs] } } := I4.kept (t' := s4.toks) fun b ob q => Heap.get?_push_of_some _ q
  obtain ⟨its, r, ht, hz⟩ := I5.tuple hx
  have hlen := r.length
  show wpAny (model X.prog X.w) X.A (subscriptTail e (.Slice none none (some (.UnaryOp .USub (.Constant (.int 1) k p1) p2)) p3) (.ref a) (.ref s4.heap.objs.size)) (EP X pins σ Q) X.xe { s4 with heap := s4.heap.push { cls := .type "slice", data := .fields #[vl, vu, vs] } }
  refine tail_any (ops := [.ref a, .ref s4.heap.objs.size]) ht.typeIs (PyProof.Rows.slot_tuple_getitem.lookup) ?_ (by with_unfolding_all rfl)
  refine getItem_back ht (Heap.IsSliceOf.new _ vl vu vs) pl pu ps ?_ (by rw [List.size_toArray]; omega)
  refine ⟨.ref _, _, I5.laid (t' := s4.toks) (o := .tup xs.reverse) (fun b ob q => Heap.get?_push_of_some _ q) (Nat.le_refl _) ?_, rfl, q _ (I5.hok.fresh (Nat.le_refl _))⟩
  exact ⟨by rw [List.length_reverse]; exact hz, its.reverse, r.reverse, ⟨_, Heap.get?_push_size _ rfl, rfl, 0, by simp⟩⟩
end Nb

set_option Elab.async false
set_option maxRecDepth 100000
set_option maxHeartbeats 4000000
/-! Rows of names as the laws make them, each a tuple known to its object. -/
namespace Nb
open PySem
open L2 hiding del del_ne del_same
theorem hu65 {A : PySem.Around} {k : Nat} (hr : Room k A) : A.units + 65 < PySem.cLine := by
  have := hr.un
  omega
theorem seqIx {j n : Nat} (h : j < n) : PySem.seqIndex? (j : Int) n = some j := by
  have e : PySem.seqIndex? (j : Int) n = if (decide (0 ≤ (if (j : Int) < 0 then (j : Int) + n else (j : Int))) && decide ((if (j : Int) < 0 then (j : Int) + n else (j : Int)) < n)) = true then some (if (j : Int) < 0 then (j : Int) + n else (j : Int)).toNat else none := rfl
  rw [e, if_neg (show ¬ ((j : Int) < 0) by omega), if_pos (by simp; omega), Int.toNat_natCast]
theorem erase_map (l : List Str) (j : Nat) : (l.map V.str).eraseIdx j = (l.eraseIdx j).map V.str := by
  induction l generalizing j with
  | nil => rfl
  | cons x l ih =>
    cases j with
    | zero => rfl
    | succ j =>
      show V.str x :: (l.map V.str).eraseIdx j = V.str x :: (l.eraseIdx j).map V.str
      rw [ih]
theorem erase_perm {l : List Str} {j : Nat} (h : j < l.length) : (l[j] :: l.eraseIdx j).Perm l := by
  induction l generalizing j with
  | nil => simp at h
  | cons x l ih =>
    cases j with
    | zero => exact List.Perm.refl _
    | succ j =>
      have hj : j < l.length := by simpa using h
      show (l[j] :: x :: l.eraseIdx j).Perm (x :: l)
      exact (List.Perm.swap x l[j] _).trans ((ih hj).cons x)
theorem dps_strs {K : PySem.W.Frag} {H : Hp} : ∀ zs : List Str, DpAll K H (zs.map V.str) (zs.map PyData.str)
  | [] => .nil
  | z :: zs => .cons (.str z) (dps_strs zs)
theorem fine_strs {zs : List Str} (h : ∀ z ∈ zs, Word z) : Fine 1 (.list (zs.map PyData.str)) := fine_list fun d hd => by
  obtain ⟨z, hz, rfl⟩ := List.mem_map.mp hd
  exact fine_str (h z hz).2
/-- where a value stands in a row, or -1 -/
def spotI (row : List Str) (d : PyData) : Int := match place row d with
  | some j => (j : Nat)
  | none => -1
theorem any_place (row : List Str) (d : PyData) : ((row.map PyData.str).any fun z => PyData.eqv z d) = (place row d).isSome := by
  rw [List.any_map]
  cases d with
  | str x =>
    show row.any ((fun z => PyData.eqv z (.str x)) ∘ PyData.str) = (row.findIdx? (· == x)).isSome
    rw [List.findIdx?_isSome]
    congr 1
  | _ =>
    show row.any _ = false
    rw [List.any_eq_false]
    intro z _
    simp [PyData.eqv]
def badK (i j : Int) (k : Nat) : Bool := if k = 0 then decide (i < 0) else decide (j < 0) || decide (j ≤ i)
theorem before_spots (row : List Str) (a b : PyData) : ((List.range 2).filter (badK (spotI row a) (spotI row b))).isEmpty = before row a b := by
  have e : ((List.range 2).filter (badK (spotI row a) (spotI row b))).isEmpty = (!badK (spotI row a) (spotI row b) 0 && !badK (spotI row a) (spotI row b) 1) := by
    show (([0, 1] : List Nat).filter _).isEmpty = _
    cases h0 : badK (spotI row a) (spotI row b) 0 <;> cases h1 : badK (spotI row a) (spotI row b) 1 <;> simp [List.filter, h0, h1]
  rw [e]
  unfold badK spotI before
  cases ha : place row a with
  | none => simp
  | some i =>
    cases hb : place row b with
    | none => simp
    | some j =>
      simp
      rw [Bool.eq_iff_iff]
      simp
theorem dps_ints {K : PySem.W.Frag} {H : Hp} (ns : List Int) : DpAll K H (ns.map V.int) (ns.map PyData.int) := dp_ints ns
theorem good_words {row : List Str} (h : GoodRow row) : ∀ z ∈ row, Word z := fun z hz => (h.2.1 z hz).2
theorem fine_row {row : List Str} (h : ∀ z ∈ row, Word z) : Fine 1 (.tuple (row.map PyData.str)) := fine_tup fun d hd => by
  obtain ⟨z, hz, rfl⟩ := List.mem_map.mp hd
  exact fine_str (h z hz).2
def RowsL (H : Hp) (as : List Addr) (rows : List (List Str)) : Prop := as.length = rows.length ∧ ∀ (k : Nat) (a : Addr) (row : List Str), as[k]? = some a → rows[k]? = some row → ∃ o, H a = some (.frz o (.tup (row.map V.str))) ∧ TupObj o
theorem rowsL_same {H H' : Hp} {as : List Addr} {rows : List (List Str)} (s : Same H H') (h : RowsL H as rows) : RowsL H' as rows :=
  ⟨h.1, fun k a row e1 e2 => let ⟨o, e3, e4⟩ := h.2 k a row e1 e2; ⟨o, s _ _ e3, e4⟩⟩
theorem rowsL_del {H H' : Hp} {p : Addr} {b : Nat} {as : List Addr} {rows : List (List Str)} (S : Src H p b) (s : Same (del H p) H') (h : RowsL H as rows) : RowsL H' as rows :=
  ⟨h.1, fun k a row e1 e2 => let ⟨o, e3, e4⟩ := h.2 k a row e1 e2; ⟨o, del_get s (src_ne S e3 (fun xs z => by cases z)) e3, e4⟩⟩
theorem rowsL_snoc {H : Hp} {as : List Addr} {rows : List (List Str)} {a : Addr} {row : List Str} {o : PySem.Obj} (h : RowsL H as rows) (e : H a = some (.frz o (.tup (row.map V.str)))) (t : TupObj o) : RowsL H (as ++ [a]) (rows ++ [row]) := by
  refine ⟨by simp [h.1], fun k b r e1 e2 => ?_⟩
  by_cases hk : k < as.length
  · rw [List.getElem?_append_left hk] at e1
    rw [List.getElem?_append_left (by rw [← h.1]; exact hk)] at e2
    exact h.2 k b r e1 e2
  · have e3 : k = as.length := by
      have := (List.getElem?_eq_some_iff.mp e1).1
      simp at this
      omega
    subst e3
    rw [List.getElem?_append_right (Nat.le_refl _)] at e1
    rw [h.1, List.getElem?_append_right (Nat.le_refl _)] at e2
    simp at e1 e2
    subst e1 e2
    exact ⟨o, e, t⟩
theorem good_sub {r s : List Str} (h : GoodRow r) (l : s.Sublist r) : GoodRow s :=
  ⟨h.1.sublist l, fun z hz => h.2.1 z (l.subset hz), Nat.le_trans l.length_le h.2.2⟩
theorem good_perm {r s : List Str} (h : GoodRow r) (l : s.Perm r) : GoodRow s :=
  ⟨l.nodup_iff.mpr h.1, fun z hz => h.2.1 z (l.subset hz), by rw [l.length_eq]; exact h.2.2⟩
theorem cut_strs (ys : List Str) (lo hi : Option Int) : ∃ ws : List Str, cutV (ys.map V.str) lo hi = ws.map V.str ∧ ws.Sublist ys := by
  refine ⟨(ys.drop (HT.sIx (ys.map V.str).length 0 lo)).take (HT.sIx (ys.map V.str).length (ys.map V.str).length hi - HT.sIx (ys.map V.str).length 0 lo), ?_, (List.take_sublist _ _).trans (List.drop_sublist _ _)⟩
  unfold cutV
  rw [List.map_take, List.map_drop]
def eight : List Str := ["a", "b", "c", "d", "node", "f", "box", "h"]
theorem good_eight : GoodRow eight := by
  refine ⟨by decide +kernel, fun z hz => ?_, by decide⟩
  have h1 : eight.all (fun z => isNm z && (decide (z.length ≤ 1000) && PyData.strOk z)) = true := by decide +kernel
  have h2 := List.all_eq_true.mp h1 z hz
  rw [Bool.and_eq_true, Bool.and_eq_true, decide_eq_true_eq] at h2
  exact h2
/-- rows of names, each a tuple of some of the names -/
def spRows : Sp := fun vs H Q _ => ∃ (p : Addr) (m t : Nat) (free : Bool) (b : Nat) (F : Hp), vs = [.ref p, .int m, .int t, .bl free] ∧ m ≤ 10 ∧ t ≤ 20 ∧ Src H p b ∧ b ≤ 800000 ∧ F p = none ∧ Same F H ∧
  ∀ (H' : Hp) (l : Addr) (as : List Addr) (rows : List (List Str)), Same F H' → F l = none → l ≠ p → H' l = some (.lst (as.map V.ref)) → RowsL H' as rows → rows.length = m → (∀ row ∈ rows, GoodRow row) → Src H' p (b + 8 + 17 * m) → Q (.ref l) H'
/-- the same texts in another order, as a new list -/
def spMixed : Sp := fun vs H Q _ => ∃ (p l : Addr) (zs : List Str) (b : Nat) (F : Hp), vs = [.ref p, .ref l] ∧ F l = some (.lst (zs.map V.str)) ∧ zs.length ≤ 20 ∧ (∀ z ∈ zs, Word z) ∧ Src H p b ∧ b ≤ 900000 ∧ F p = none ∧ Same F H ∧
  ∀ (H' : Hp) (l' : Addr) (ys : List Str), Same F H' → F l' = none → l' ≠ p → H' l' = some (.lst (ys.map V.str)) → ys.Perm zs → Src H' p (b + zs.length) → Q (.ref l') H'
theorem cr_tupleFS {X : Cx} : CallR X (.type "tuple") (fun xs H Q => ∃ p ys, xs = [.ref p] ∧ SqL X.K H p ys ∧ ∀ H2 l o, Same H H2 → H l = none → H2 l = some (.frz o (.tup ys)) → TupObj o → Q (.ref l) H2) :=
  CallR.to cr_tupleF fun xs H Q ⟨p, ys, e, h, q⟩ => ⟨p, ys, e, h, fun l o nl t => q _ l o (same_new nl) nl upd_same t⟩
/-- repr of lists and tuples that are read -/
theorem cr_reprP {X : Cx} (g : X.A.guards = some []) (u : X.A.units + 100 < cLine) : CallR X (.builtin "repr") (fun xs H Q => ∃ (p : Addr) (d : PyData), xs = [.ref p] ∧ Dp X.K H (.ref p) d ∧ d.canLay0 = true ∧ d.depth ≤ 60 ∧ okR (2 ^ 20) d ∧ Q (.str d.shown) H) := by
  intro pins s σ H xs us Q I r h
  obtain ⟨p, d, rfl, k1, k2, k3, o, q⟩ := h
  obtain ⟨v, rfl, rv⟩ := vals1 r
  cases rv
  obtain ⟨as, rd⟩ := Dp.reads I d (.ref p) (.ref p) k1 rfl
  have lay : PyData.layable0 d = true := by
    unfold PyData.layable0
    rw [k2, decide_eq_true (show d.depth ≤ 64 by omega), decide_eq_true o.2.2]
    rfl
  have sz : d.shown.length ≤ sizeLine := Nat.le_trans (PyProof.Rows.shown_le13 lay o.2.1) (by decide)
  have nd := PyData.hasDict_of_canLay _ k2
  exact repr_of_reads' rd o.1 (fun z => by rw [nd] at z; cases z) g (by omega) (fun _ _ e => e) (fun h' t tk hk => ⟨.str d.shown, H, I.kept (t' := tk) hk, ⟨_, rfl⟩, q⟩) sz
end Nb

set_option Elab.async false
set_option linter.all false
set_option maxRecDepth 100000
set_option maxHeartbeats 4000000
namespace K22
open PySem Nb
open L2 hiding del del_ne del_same
def topS (i : Nat) : Stmt := PySem.Challenge.pw_nextbehind_k22_answers_shown.main.body.getD i (.Pass ⟨0, 0, 0, 0⟩)
def clsAt (s : Stmt) (j : Nat) : Stmt := match s with
  | .ClassDef _ _ _ body _ _ _ _ _ _ _ => body.getD j (.Pass ⟨0, 0, 0, 0⟩)
  | _ => .Pass ⟨0, 0, 0, 0⟩
structure Txt (mg : Str → Option Value) : Prop where
  len : mg "len" = none
  isinstance : mg "isinstance" = none
  type : mg "type" = none
  tuple : mg "tuple" = none
  list : mg "list" = none
  range : mg "range" = none
  max : mg "max" = none
  min : mg "min" = none
  bool : mg "bool" = none
  enumerate : mg "enumerate" = none
  str : mg "str" = none
structure Cc where
  chain : Addr
  ring : Addr
  thr : Addr
  can : Addr
  stp : Addr
  cant : Addr
  alw : Addr
abbrev Cc.all (c : Cc) : List Addr := [c.chain, c.ring, c.thr, c.can, c.stp, c.cant, c.alw]
abbrev St3 := PySem.Str × PySem.Str × PySem.Str
inductive Ob where
  | chain (ss : List St3)
  | ring (ss : List St3)
  | thr (ss : List St3) (n : PySem.Str)
  | can (f : List PySem.Str)
  | stp (f : List PySem.Str) (n : PySem.Str)
  | cant (k : Bool) (ss : List St3)
  | alw (rs : List (PySem.Str × Bool × List St3))
  deriving DecidableEq
abbrev Ob.rsn (k : Bool) (ss : List St3) : Ob := match k with | true => .ring ss | false => .chain ss
def Cc.of (c : Cc) : Ob → Addr
  | .chain _ => c.chain
  | .ring _ => c.ring
  | .thr _ _ => c.thr
  | .can _ => c.can
  | .stp _ _ => c.stp
  | .cant _ _ => c.cant
  | .alw _ => c.alw
theorem Cc.mem (c : Cc) (x : Ob) : c.of x ∈ c.all := by cases x <;> simp [Cc.of, Cc.all]
abbrev tup3 (s : St3) : HO := .tup [.str s.1, .str s.2.1, .str s.2.2]
def stD (s : St3) : PyData := .tuple [.str s.1, .str s.2.1, .str s.2.2]
def stsD (ss : List St3) : PyData := .tuple (ss.map stD)
def OkS (x : PySem.Str) : Prop := PyData.strOk x = true ∧ x.length ≤ 100
def Ok3 (ss : List St3) : Prop := (∀ s ∈ ss, OkS s.1 ∧ OkS s.2.1 ∧ OkS s.2.2) ∧ ss.length ≤ 10
def OkF (f : List PySem.Str) : Prop := (∀ z ∈ f, OkS z) ∧ f.length ≤ 10
def OkO : Ob → Prop
  | .chain ss | .ring ss => Ok3 ss
  | .thr ss n => Ok3 ss ∧ OkS n
  | .can f => OkF f
  | .stp f n => OkF f ∧ OkS n
  | .cant _ ss => Ok3 ss
  | .alw rs => (∀ r ∈ rs, OkS r.1 ∧ Ok3 r.2.2) ∧ rs.length ≤ 10
def StepsAt (H : Hp) (t : Addr) (ss : List St3) : Prop := ∃ as : List Addr, H t = some (.tup (as.map V.ref)) ∧ F2 (fun a s => H a = some (tup3 s)) as ss
theorem steps_same {H H' : Hp} {t : Addr} {ss : List St3} (s : Same H H') (h : StepsAt H t ss) : StepsAt H' t ss := let ⟨as, e, f⟩ := h; ⟨as, s _ _ e, f2_imp (fun _ _ k => s _ _ k) f⟩
def RsAt (c : Cc) (H : Hp) (a : Addr) (k : Bool) (ss : List St3) : Prop := ∃ dx t, H a = some (.ins (c.of (.rsn k ss)) dx [("steps", .ref t)]) ∧ StepsAt H t ss
theorem rs_same {c : Cc} {H H' : Hp} {a : Addr} {k : Bool} {ss : List St3} (s : Same H H') (h : RsAt c H a k ss) : RsAt c H' a k ss := let ⟨dx, t, e, z⟩ := h; ⟨dx, t, s _ _ e, steps_same s z⟩
/-- the pairs of an Always -/
def PrAt (c : Cc) (H : Hp) (p : Addr) (r : PySem.Str × Bool × List St3) : Prop := ∃ b, H p = some (.tup [.str r.1, .ref b]) ∧ RsAt c H b r.2.1 r.2.2
theorem pr_same {c : Cc} {H H' : Hp} {p : Addr} {r : PySem.Str × Bool × List St3} (s : Same H H') (h : PrAt c H p r) : PrAt c H' p r := let ⟨b, e, z⟩ := h; ⟨b, s _ _ e, rs_same s z⟩
def PrsAt (c : Cc) (H : Hp) (t : Addr) (rs : List (PySem.Str × Bool × List St3)) : Prop := ∃ as : List Addr, H t = some (.tup (as.map V.ref)) ∧ F2 (PrAt c H) as rs
theorem prs_same {c : Cc} {H H' : Hp} {t : Addr} {rs : List (PySem.Str × Bool × List St3)} (s : Same H H') (h : PrsAt c H t rs) : PrsAt c H' t rs := let ⟨as, e, f⟩ := h; ⟨as, s _ _ e, f2_imp (fun _ _ k => pr_same s k) f⟩
/-- an object of the answers or reasons at a -/
def ObAt (c : Cc) (H : Hp) (a : Addr) : Ob → Prop
  | .chain ss => ∃ dx t, H a = some (.ins c.chain dx [("steps", .ref t)]) ∧ StepsAt H t ss
  | .ring ss => ∃ dx t, H a = some (.ins c.ring dx [("steps", .ref t)]) ∧ StepsAt H t ss
  | .thr ss n => ∃ dx t, H a = some (.ins c.thr dx [("steps", .ref t), ("name", .str n)]) ∧ StepsAt H t ss
  | .can f => ∃ dx t, H a = some (.ins c.can dx [("future", .ref t)]) ∧ H t = some (.tup (f.map V.str))
  | .stp f n => ∃ dx t, H a = some (.ins c.stp dx [("future", .ref t), ("name", .str n)]) ∧ H t = some (.tup (f.map V.str))
  | .cant k ss => ∃ dx b, H a = some (.ins c.cant dx [("reason", .ref b)]) ∧ RsAt c H b k ss
  | .alw rs => ∃ dx t, H a = some (.ins c.alw dx [("reasons", .ref t)]) ∧ PrsAt c H t rs
theorem ob_same {c : Cc} {H H' : Hp} {a : Addr} (s : Same H H') : ∀ {x : Ob}, ObAt c H a x → ObAt c H' a x
  | .chain _, ⟨dx, t, e, k⟩ => ⟨dx, t, s _ _ e, steps_same s k⟩
  | .ring _, ⟨dx, t, e, k⟩ => ⟨dx, t, s _ _ e, steps_same s k⟩
  | .thr _ _, ⟨dx, t, e, k⟩ => ⟨dx, t, s _ _ e, steps_same s k⟩
  | .can _, ⟨dx, t, e, k⟩ => ⟨dx, t, s _ _ e, s _ _ k⟩
  | .stp _ _, ⟨dx, t, e, k⟩ => ⟨dx, t, s _ _ e, s _ _ k⟩
  | .cant _ _, ⟨dx, t, e, k⟩ => ⟨dx, t, s _ _ e, rs_same s k⟩
  | .alw _, ⟨dx, t, e, k⟩ => ⟨dx, t, s _ _ e, prs_same s k⟩
theorem ob_rsn {c : Cc} {H : Hp} {a : Addr} {k : Bool} {ss : List St3} (h : RsAt c H a k ss) : ObAt c H a (.rsn k ss) := by
  cases k <;> exact h
theorem ob_ins {c : Cc} {H : Hp} {a : Addr} : ∀ {x : Ob}, ObAt c H a x → ∃ dx fs, H a = some (.ins (c.of x) dx fs) ∧ fs.lookup ("show" : PySem.Str) = none
  | .chain _, ⟨dx, t, e, k⟩ => ⟨dx, _, e, rfl⟩
  | .ring _, ⟨dx, t, e, k⟩ => ⟨dx, _, e, rfl⟩
  | .thr _ _, ⟨dx, t, e, k⟩ => ⟨dx, _, e, rfl⟩
  | .can _, ⟨dx, t, e, k⟩ => ⟨dx, _, e, rfl⟩
  | .stp _ _, ⟨dx, t, e, k⟩ => ⟨dx, _, e, rfl⟩
  | .cant _ _, ⟨dx, t, e, k⟩ => ⟨dx, _, e, rfl⟩
  | .alw _, ⟨dx, t, e, k⟩ => ⟨dx, _, e, rfl⟩
theorem dp_steps {K : PySem.W.Frag} {H : Hp} {t : Addr} {ss : List St3} (h : StepsAt H t ss) : Dp K H (.ref t) (stsD ss) := by
  obtain ⟨as, e, f⟩ := h
  refine .tup (SqT.of e) ?_
  clear e
  induction f with
  | nil => exact .nil
  | cons k _ ih => exact .cons (.tup (SqT.of k) (.cons (.str _) (.cons (.str _) (.cons (.str _) .nil)))) ih
theorem fine_steps {ss : List St3} (h : Ok3 ss) : Fine 2 (stsD ss) := fine_tup fun d hd => by
  obtain ⟨s, hs, rfl⟩ := List.mem_map.mp hd
  obtain ⟨k1, k2, k3⟩ := h.1 s hs
  refine fine_tup fun d hd => ?_
  simp only [List.mem_cons, List.not_mem_nil, or_false] at hd
  rcases hd with rfl | rfl | rfl
  · exact fine_str k1.1
  · exact fine_str k2.1
  · exact fine_str k3.1
theorem fine_fut {f : List PySem.Str} (h : OkF f) : Fine 1 (.tuple (f.map PyData.str)) := fine_tup fun d hd => by
  obtain ⟨s, hs, rfl⟩ := List.mem_map.mp hd
  exact fine_str (h.1 s hs).1
theorem eqv_strs : ∀ f g : List PySem.Str, PyData.eqvAll (f.map PyData.str) (g.map PyData.str) = decide (f = g)
  | [], [] => rfl
  | [], _ :: _ => rfl
  | _ :: _, [] => rfl
  | x :: f, y :: g => by
    simp only [List.map_cons, PyData.eqvAll, eqv_strs f g, PyData.eqv]
    rw [Bool.eq_iff_iff]
    simp
theorem eqv_futs (f g : List PySem.Str) : PyData.eqv (.tuple (f.map PyData.str)) (.tuple (g.map PyData.str)) = decide (f = g) := by
  rw [← eqv_strs]
  simp [PyData.eqv]
theorem eqv_stsA : ∀ f g : List St3, PyData.eqvAll (f.map stD) (g.map stD) = decide (f = g)
  | [], [] => rfl
  | [], _ :: _ => rfl
  | _ :: _, [] => rfl
  | (a, b, c) :: f, (a', b', c') :: g => by
    simp only [List.map_cons, PyData.eqvAll, eqv_stsA f g, PyData.eqv, stD]
    rw [Bool.eq_iff_iff]
    simp [and_assoc]
theorem eqv_sts (f g : List St3) : PyData.eqv (stsD f) (stsD g) = decide (f = g) := by
  rw [← eqv_stsA]
  simp [PyData.eqv, stsD]
theorem dec_str (x y : PySem.Str) : decide (V.str x = V.str y) = decide (x = y) := by
  rw [Bool.eq_iff_iff]
  simp
theorem f2_app {α β : Type} {R : α → β → Prop} : ∀ {xs : List α} {ys : List β} {us : List α} {vs : List β}, F2 R xs ys → F2 R us vs → F2 R (xs ++ us) (ys ++ vs)
  | _, _, _, _, .nil, g => g
  | _, _, _, _, .cons h f, g => .cons h (f2_app f g)
theorem iteF0 {b : Bool} {p q : Prop} (e : b = false) (h : q) : if b = true then p else q := by
  rw [e]
  exact iteF h
theorem iteT0 {b : Bool} {p q : Prop} (e : b = true) (h : p) : if b = true then p else q := by
  rw [e]
  exact iteT h
/-- the lines that are shown -/
def stepL (s : St3) : PySem.Str := ((((PySem.Str.empty ++ s.1) ++ " ahead of ") ++ s.2.1) ++ " in ") ++ s.2.2
def futL (f : List PySem.Str) : PySem.Str := Txt.join " " ("future" :: f)
def named (w : PySem.Str) (n : PySem.Str) : PySem.Str := (PySem.Str.empty ++ w) ++ n
def rsnL (k : Bool) (ss : List St3) : List PySem.Str := match k with | true => ss.map stepL ++ [("ring" : PySem.Str)] | false => ss.map stepL
def linesOf : Ob → List PySem.Str
  | .chain ss => ss.map stepL
  | .ring ss => ss.map stepL ++ [("ring" : PySem.Str)]
  | .thr ss n => ss.map stepL ++ [named "passes " n]
  | .can f => [futL f]
  | .stp f n => [futL f, named "stopper " n]
  | .cant k ss => "cannot" :: rsnL k ss
  | .alw rs => "always" :: (rs.map fun r => named "stopper " r.1 :: rsnL r.2.1 r.2.2).flatten
def spInit1 (C : Addr) (f : PySem.Str) : Sp := fun vs H Q _ => ∃ (m dx : Addr) (v : V), vs = [.ref m, v] ∧ H m = some (.ins C dx []) ∧ Q .non (upd H m (.ins C dx [(f, v)]))
def spInit2 (C : Addr) (f g : PySem.Str) : Sp := fun vs H Q _ => ∃ (m dx : Addr) (v w : V), vs = [.ref m, v, w] ∧ H m = some (.ins C dx []) ∧ Q .non (upd (upd H m (.ins C dx [(f, v)])) m (.ins C dx [(f, v), (g, w)]))
/-- two Always are compared only if they are equal -/
def EqOk : Ob → Ob → Prop
  | .alw r, .alw s => r = s
  | _, _ => True
def spEqO (c : Cc) (C : Addr) : Sp := fun vs H Q _ => ∃ (a b : Addr) (x y : Ob), vs = [.ref a, .ref b] ∧ c.of x = C ∧ ObAt c H a x ∧ ObAt c H b y ∧ OkO x ∧ OkO y ∧ EqOk x y ∧ ∀ H', Same H H' → Q (.bl (decide (x = y))) H'
def spShow (c : Cc) (C : Addr) : Sp := fun vs H Q _ => ∃ (a : Addr) (x : Ob), vs = [.ref a] ∧ c.of x = C ∧ ObAt c H a x ∧ OkO x ∧ ∀ H' l, Same H H' → H l = none → H' l = some (.lst ((linesOf x).map V.str)) → Q (.ref l) H'
def truth : Ob → Bool
  | .stp _ _ => false
  | .cant _ _ => false
  | _ => true
def spBool (c : Cc) (C : Addr) : Sp := fun vs H Q _ => ∃ (a : Addr) (x : Ob), vs = [.ref a] ∧ c.of x = C ∧ ObAt c H a x ∧ Q (.bl (truth x)) H
/-- the written part's facts that all use -/
structure Fx (K : PySem.W.Frag) (c : Cc) : Prop where
  nd : c.all.Nodup
  mks : ∀ C ∈ c.all, PySem.W.makesIn K C = true
  cl : ∀ C ∈ c.all, Cls K C
  eq : Eqs K c.all
def spStepL (c : Cc) : Sp := fun vs H Q _ => ∃ (a C dx t : Addr) (fs : List (PySem.Str × V)) (ss : List St3), vs = [.ref a] ∧ C ∈ [c.chain, c.ring, c.thr] ∧ H a = some (.ins C dx fs) ∧ fs.lookup ("steps" : PySem.Str) = some (.ref t) ∧ StepsAt H t ss ∧ Ok3 ss ∧
  ∀ H' l, Same H H' → H l = none → H' l = some (.lst ((ss.map stepL).map V.str)) → Q (.ref l) H'
def spFutL (c : Cc) : Sp := fun vs H Q _ => ∃ (a C dx t : Addr) (fs : List (PySem.Str × V)) (f : List PySem.Str), vs = [.ref a] ∧ C ∈ [c.can, c.stp] ∧ H a = some (.ins C dx fs) ∧ fs.lookup ("future" : PySem.Str) = some (.ref t) ∧ H t = some (.tup (f.map V.str)) ∧ OkF f ∧
  ∀ H', Same H H' → Q (.str (futL f)) H'
theorem ap_len {x y : PySem.Str} {a b : Nat} (h : x.length ≤ a) (k : y.length ≤ b) : (x ++ y).length ≤ a + b := by
  rw [strLen_append]
  omega
theorem l100 {x : PySem.Str} {a : Nat} (h : x.length ≤ a) (k : a ≤ 100000) : x.length ≤ sizeLine := line100 (Nat.le_trans h k)
theorem getD_at {α : Type} (d : α) {xs : List α} {i : Nat} {x : α} (h : xs[i]? = some x) : xs.getD i d = x := by
  rw [List.getD_eq_getElem?_getD, h]
  rfl
theorem map_range {α β : Type} (d : α) (f : α → β) (xs : List α) : (List.range xs.length).map (fun i => f (xs.getD i d)) = xs.map f := by
  conv => rhs; rw [← range_getD d xs]
  rw [List.map_map]
  rfl
theorem sum_len {l n : Nat} : ∀ {zs : List PySem.Str}, (∀ z ∈ zs, z.length ≤ n) → zs.length ≤ l → (zs.map (·.length)).sum ≤ n * l
  | [], _, _ => Nat.zero_le _
  | z :: zs, h, k => by
    have h1 := h z (List.mem_cons_self ..)
    obtain ⟨m, rfl⟩ : ∃ m, l = m + 1 := ⟨l - 1, by rw [List.length_cons] at k; omega⟩
    have h2 := sum_len (l := m) (n := n) (fun y hy => h y (List.mem_cons_of_mem _ hy)) (by rw [List.length_cons] at k; omega)
    rw [List.map_cons, List.sum_cons, Nat.mul_add]
    omega
theorem not_of {c : Cc} {x y : Ob} (h : c.of x ≠ c.of y) : decide (x = y) = false := decide_eq_false fun z => h (z ▸ rfl)
section
variable {P : Program} {w : World} {K : PySem.W.Frag} {mg : Str → Option Value} {base : Heap}
abbrev s_h_source : Stmt := topS 17
theorem sc_h_source : FnScope ["_law_script", "_law_k", "_law_cell"] ["_law_script", "_law_k"] (defScope s_h_source) := ⟨rfl, rfl, rfl, by decide +kernel, rfl, by decide +kernel, by decide +kernel⟩
theorem ok_h_source {f : Addr} {fd : FuncData} (F : Fun K "_law_source" "_law_source" s_h_source f fd) (T : Txt mg) : FnOk P w K mg base CX0 1 f fd ["_law_script", "_law_k"] (spSource K) := by
  refine F.ok sc_h_source (fun vs H Q E h => ?_) (fun cdv A outer s H vs Q E hr h => ?_)
  · obtain ⟨a, ns, k, rfl, _⟩ := h
    rfl
  · obtain ⟨a, ns, k, rfl, hS, hlen, hk, q⟩ := h
    refine ⟨_, pss_cons (ps_set (i := 2) sc_h_source.nd rfl (Or.inl rfl) (pe_ifExp (pt_cmpR (op_neD hr.units) (pv 0) (pe_lst pa_nil) (nomark _)) (pe_ix ix_list (pv 0) (pe_op op_modN (pv 1) (pe_callB call_len_seq (by rfl) T.len PySem.boot_len (pa_cons (pv 0) pa_nil))) (fun _ _ => rfl)) pe_int))
        (pss_one (ps_ret (pe_lst (pa_cons (pv 2) (pa_cons (pe_op op_mul pe_int (pv 1)) (pa_cons (pe_ifExp (pt_cmpR op_ge (pv 2) (pe_op op_pow pe_int pe_int) (nomark _)) (pe_op op_fdivW (pv 2) (pe_op op_pow pe_int pe_int)) pe_int) pa_nil)))))), ?_⟩
    refine ⟨_, rfl, Nat.zero_le _, fun l hl => ?_⟩
    have s1 : Same H (upd H l (.lst [])) := same_new hl
    refine ⟨.list (ns.map PyData.int), .list [], .lst (s1.seq hS) (dp_ints ns), .lst (SqL.of upd_same) .nil, (fine_ints ns).shaped (by decide), by decide, _, rfl, ?_⟩

    rw [eqv_nil]
    cases ns with
    | nil =>
      refine iteF ?_
      refine ⟨_, rfl, _, rfl, _, _, rfl, rfl, .inl (by decide), _, rfl, _, _, rfl, rfl, ⟨by decide, by decide, by decide⟩, _, _, rfl, rfl, _, rfl, ?_⟩
      refine iteF ⟨(by show 3 ≤ sizeLine; decide), fun p hp => ?_⟩
      have s2 := s1.trans (same_new (o := .lst [.int 1, .int (3 * (k : Int)), .int 0]) hp)
      exact q _ p s2 (s1.free hp) ⟨1, 3 * (k : Int), 0, upd_same, by omega, by omega⟩
    | cons n ns =>
      refine iteT ?_
      have hl2 : ((k : Int).fmod ((((n :: ns).map V.int).length : Nat) : Int)) < (((n :: ns).map V.int).length : Nat) ∧ 0 ≤ (k : Int).fmod ((((n :: ns).map V.int).length : Nat) : Int) :=
        ⟨(fmod_pos _ (by simp; omega)).2, (fmod_pos _ (by simp; omega)).1⟩
      obtain ⟨j, hj⟩ : ∃ j : Nat, (k : Int).fmod ((((n :: ns).map V.int).length : Nat) : Int) = (j : Int) := ⟨_, (Int.toNat_of_nonneg hl2.2).symm⟩
      have hjl : j < (n :: ns).length := by
        have h1 := hl2.1
        rw [hj] at h1
        simp at h1 ⊢
        omega
      refine ⟨_, rfl, _, rfl, _, rfl, a, _, rfl, .inl (s1.seq hS), _, _, rfl, rfl, (by simp; omega), a, _, _, .int (n :: ns)[j], rfl, rfl, s1.seq hS, ?_, ?_⟩
      · rw [hj]
        refine atI_nat ?_
        rw [List.getElem?_map, List.getElem?_eq_getElem hjl]
        rfl
      · refine ⟨_, rfl, _, rfl, _, _, rfl, rfl, .inl (by decide), _, rfl, _, _, rfl, rfl, ⟨by decide, by decide, by decide⟩, _, _, rfl, rfl, _, rfl, ?_⟩
        refine ite2 (fun _ => ?_) (fun _ => ?_)
        · refine ⟨_, rfl, _, _, rfl, rfl, ⟨by decide, by decide, by decide⟩, _, _, rfl, rfl, wide_div (b := 70) (by decide) (by decide) (by decide) (by decide), (by show 3 ≤ sizeLine; decide), fun p hp => ?_⟩
          exact q _ p (s1.trans (same_new hp)) (s1.free hp) ⟨_, 3 * (k : Int), _, upd_same, by omega, by omega⟩
        · refine ⟨(by show 3 ≤ sizeLine; decide), fun p hp => ?_⟩
          exact q _ p (s1.trans (same_new hp)) (s1.free hp) ⟨_, 3 * (k : Int), _, upd_same, by omega, by omega⟩
abbrev s_h_next : Stmt := topS 18
theorem sc_h_next : FnScope ["_law_source_here", "_law_many", "_law_found", "_law_primes", "_law_prime"] ["_law_source_here", "_law_many"] (defScope s_h_next) := ⟨rfl, rfl, rfl, by decide +kernel, rfl, by decide +kernel, by decide +kernel⟩
theorem ok_h_next {f : Addr} {fd : FuncData} (F : Fun K "_law_next" "_law_next" s_h_next f fd) (T : Txt mg) : FnOk P w K mg base CX0 1 f fd ["_law_source_here", "_law_many"] (spNext) := by
  refine F.ok sc_h_next (fun vs H Q E h => ?_) (fun cdv A outer s H vs Q E hr h => ?_)
  · obtain ⟨p, m, b, G, rfl, _⟩ := h
    rfl
  · obtain ⟨p, m, b, G, rfl, m1, m2, ⟨c, n, r, hp, hn, hb⟩, hB, hG, hs, q⟩ := h
    refine ⟨_, pss_cons (ps_if (pt_cmpR op_gt (pe_ix ix_list (pv 0) pe_int (fun _ _ => rfl)) pe_int (nomark _)) (pss_cons (ps_set (i := 2) sc_h_next.nd rfl (Or.inl rfl) (pe_op op_modN (pe_ix ix_list (pv 0) pe_int (fun _ _ => rfl)) (pv 1)))
        (pss_cons (ps_asg (pe_op op_fdivN (pe_ix ix_list (pv 0) pe_int (fun _ _ => rfl)) (pv 1)) (pg_sub (pv 0) pe_int set_list))
        (pss_one (ps_ret (pv 2))))) pss_nil)
        (pss_cons (ps_asg (pe_op op_add (pe_ix ix_list (pv 0) pe_int (fun _ _ => rfl)) pe_int) (pg_sub (pv 0) pe_int set_list))
        (pss_cons (ps_set (i := 3) sc_h_next.nd rfl (Or.inl rfl) (pe_lst (pa_cons pe_int (pa_cons pe_int (pa_cons pe_int (pa_cons pe_int (pa_cons pe_int (pa_cons pe_int (pa_cons pe_int (pa_cons pe_int pa_nil))))))))))
        (pss_cons (ps_set (i := 4) sc_h_next.nd rfl (Or.inl rfl) (pe_ix ix_list (pe_op op_cat (pv 3) (pe_lst (pa_cons pe_int (pa_cons pe_int (pa_cons pe_int pa_nil))))) (pe_op op_modN (pe_ix ix_list (pv 0) pe_int (fun _ _ => rfl)) pe_int) (fun _ _ => rfl)))
        (pss_one (ps_ret (pe_op op_modN (pe_op op_fdivN (pe_op op_modN (pe_op op_pow (pe_op op_add (pe_op op_add (pe_op op_modN (pe_ix ix_list (pv 0) pe_int (fun _ _ => rfl)) (pv 4)) (pe_op op_mul pe_int (pe_ix ix_list (pv 0) pe_int (fun _ _ => rfl)))) pe_int) pe_int) (pv 4)) pe_int) (pv 1))))))), ?_⟩
    refine ⟨_, rfl, p, _, _, _, rfl, rfl, SqL.of hp, atI_nat (j := 2) rfl, _, _, rfl, rfl, _, rfl, ?_⟩
    refine ite2 (fun _ => ?_) (fun _ => ?_)
    · refine ⟨_, rfl, p, _, _, _, rfl, rfl, SqL.of hp, atI_nat (j := 2) rfl, _, rfl, _, _, rfl, rfl, (by omega), ?_⟩
      refine ⟨_, rfl, p, _, _, _, rfl, rfl, SqL.of hp, atI_nat (j := 2) rfl, _, rfl, _, _, rfl, rfl, ⟨by omega, by omega⟩, _, rfl, p, _, _, 2, rfl, rfl, hp, rfl, _, rfl, ?_⟩
      have f1 := fmod_pos r m1
      exact q _ _ f1.1 f1.2 (same_at hs hG) ⟨c, n, _, upd_same, hn, by omega⟩
    · refine ⟨_, rfl, p, _, _, _, rfl, rfl, SqL.of hp, atI_nat (j := 1) rfl, _, _, rfl, rfl, _, rfl, p, _, _, 1, rfl, rfl, hp, rfl, ?_⟩
      refine ⟨(by show 8 ≤ sizeLine; decide), fun l1 hl1 => ?_⟩
      have npl1 : p ≠ l1 := ne_of_none upd_same hl1
      have hp1 : (upd (upd H p (.lst [.int c, .int (n + 1), .int r])) l1 (.lst ((primes.take 8).map V.int))) p = some (.lst [.int c, .int (n + 1), .int r]) := by
        rw [upd_ne npl1]
        exact upd_same
      refine ⟨_, rfl, (by show 3 ≤ sizeLine; decide), fun l2 hl2 => ?_⟩
      have npl2 : p ≠ l2 := ne_of_none hp1 hl2
      have nl12 : l1 ≠ l2 := ne_of_none upd_same hl2
      refine ⟨l1, l2, _, _, rfl, rfl, (by rw [upd_ne nl12]; exact upd_same), upd_same, (by show 8 + 3 ≤ sizeLine; decide), fun l3 hl3 => ?_⟩
      have hp2 : ∀ o2 : HO, (upd (upd (upd H p (.lst [.int c, .int (n + 1), .int r])) l1 (.lst ((primes.take 8).map V.int))) l2 o2) p = some (.lst [.int c, .int (n + 1), .int r]) := fun o2 => by
        rw [upd_ne npl2]
        exact hp1
      have npl3 : p ≠ l3 := ne_of_none (hp2 _) hl3
      have hp3 : ∀ o2 o3 : HO, (upd (upd (upd (upd H p (.lst [.int c, .int (n + 1), .int r])) l1 (.lst ((primes.take 8).map V.int))) l2 o2) l3 o3) p = some (.lst [.int c, .int (n + 1), .int r]) := fun o2 o3 => by
        rw [upd_ne npl3]
        exact hp2 _
      have f0 := fmod_pos (n + 1) (show (1 : Int) ≤ 11 by decide)
      obtain ⟨pr, ep, pr2, pr31⟩ := prime_at _ f0.1 f0.2
      refine ⟨_, rfl, p, _, _, _, rfl, rfl, SqL.of (hp3 _ _), atI_nat (j := 1) rfl, _, _, rfl, rfl, (by show (11 : Int) ≠ 0; decide), l3, _, _, _, rfl, rfl, SqL.of upd_same, ep, ?_⟩
      have f1 := fmod_pos c (show 1 ≤ pr by omega)
      refine ⟨_, rfl, p, _, _, _, rfl, rfl, SqL.of (hp3 _ _), atI_nat (j := 0) rfl, _, rfl, _, _, rfl, rfl, (by omega), _, rfl, p, _, _, _, rfl, rfl, SqL.of (hp3 _ _), atI_nat (j := 1) rfl, _, _, rfl, rfl, .inl (by decide), _, _, rfl, rfl,
        _, _, rfl, rfl, _, _, rfl, rfl, ⟨by decide, by decide, (by omega)⟩, _, rfl, _, _, rfl, rfl, (by omega), _, _, rfl, rfl, ⟨by decide, by decide⟩, _, rfl, _, _, rfl, rfl, (by omega), ?_⟩
      have f2 := fmod_pos ((((c.fmod pr + 7919 * (n + 1) + 1) ^ (5 : Int).toNat).fmod pr).fdiv 13) m1
      have s1 : Same G (upd H p (.lst [.int c, .int (n + 1), .int r])) := same_at hs hG
      exact q _ _ f2.1 f2.2 (((s1.trans (same_new hl1)).trans (same_new hl2)).trans (same_new hl3)) ⟨c, n + 1, r, hp3 _ _, by omega, by omega⟩
abbrev s_h_pick : Stmt := topS 19
theorem sc_h_pick : FnScope ["_law_source_here", "_law_items"] ["_law_source_here", "_law_items"] (defScope s_h_pick) := ⟨rfl, rfl, rfl, by decide +kernel, rfl, by decide +kernel, by decide +kernel⟩
theorem ok_h_pick {f : Addr} {fd : FuncData} (F : Fun K "_law_pick" "_law_pick" s_h_pick f fd) (T : Txt mg) (D_h_next : Dn P w K mg base CX0 1 "_law_next" ["_law_source_here", "_law_many"] (spNext)) : FnOk P w K mg base CX0 2 f fd ["_law_source_here", "_law_items"] (spPick) := by
  refine F.ok sc_h_pick (fun vs H Q E h => ?_) (fun cdv A outer s H vs Q E hr h => ?_)
  · obtain ⟨p, l, xs, b, G, rfl, _⟩ := h
    rfl
  · obtain ⟨p, l, xs, b, G, rfl, hl, h1, h2, hS, hB, hG, hs, q⟩ := h
    refine ⟨_, pss_one (ps_ret (pe_ix ix_list (pv 1) (pe_D D_h_next (hr.mono (by decide)) (by rfl) pass0 (pa_cons (pv 0) (pa_cons (pe_callB call_len_seq (by rfl) T.len PySem.boot_len (pa_cons (pv 1) pa_nil)) pa_nil))) (fun _ _ => rfl))), ?_⟩
    refine ⟨_, rfl, _, rfl, _, rfl, l, xs, rfl, .inl (SqL.of (hs _ _ hl)), p, _, b, G, rfl, (by omega), (by omega), hS, hB, hG, hs, fun H1 k k0 k1 s1 S1 => ?_⟩
    obtain ⟨j, rfl⟩ : ∃ j : Nat, k = (j : Int) := ⟨_, (Int.toNat_of_nonneg k0).symm⟩
    have hj : j < xs.length := by omega
    exact ⟨l, _, _, xs[j], rfl, rfl, SqL.of (s1 _ _ hl), atI_nat (List.getElem?_eq_getElem hj), q H1 _ (List.getElem_mem hj) s1 S1⟩
abbrev s_h_mixed : Stmt := topS 20
theorem sc_h_mixed : FnScope ["_law_source_here", "_law_items", "_law_rest", "_law_found"] ["_law_source_here", "_law_items"] (defScope s_h_mixed) := ⟨rfl, rfl, rfl, by decide +kernel, rfl, by decide +kernel, by decide +kernel⟩
theorem ok_h_mixed {f : Addr} {fd : FuncData} (F : Fun K "_law_mixed" "_law_mixed" s_h_mixed f fd) (T : Txt mg) (D_h_next : Dn P w K mg base CX0 1 "_law_next" ["_law_source_here", "_law_many"] (spNext)) : FnOk P w K mg base CX0 2 f fd ["_law_source_here", "_law_items"] (spMixed) := by
  refine F.ok sc_h_mixed (fun vs H Q E h => ?_) (fun cdv A outer s H vs Q E hr h => ?_)
  · obtain ⟨p, l, zs, b, G, rfl, _⟩ := h
    rfl
  · obtain ⟨p, l, zs, b, G, rfl, hl, hlen, hw, hS, hB, hG, hs, q⟩ := h
    refine ⟨_, pss_cons (ps_par (i := 2) (j := 3) rfl sc_h_mixed.nd rfl rfl (by decide) rfl rfl (pa_cons (pe_callTy call_list_of (by rfl) T.list (by decide +kernel) (pa_cons (pv 1) pa_nil)) (pa_cons (pe_lst pa_nil) pa_nil)) rfl)
        (pss_cons (ps_while PassesOwn.never (pt_cmpR (op_neD hr.units) (pv 2) (pe_lst pa_nil) (nomark _)) (pss_one (ps_expr (pe_bm PySem.F.plainAttrs_list PySem.F.slot_list_append PySem.F.type_list_append mt_append (pv 3) (pa_cons (pe_bm PySem.F.plainAttrs_list PySem.F.slot_list_pop PySem.F.type_list_pop mt_popAt (pv 2) (pa_cons (pe_D D_h_next (hr.mono (by decide)) (by rfl) pass0 (pa_cons (pv 0) (pa_cons (pe_callB call_len_seq (by rfl) T.len PySem.boot_len (pa_cons (pv 2) pa_nil)) pa_nil))) pa_nil)) pa_nil)))))
        (pss_one (ps_ret (pv 3)))), ?_⟩
    refine ⟨_, rfl, l, _, rfl, .inl (SqL.of (hs _ _ hl)), fun r hr0 => ?_⟩
    refine ⟨Nat.zero_le _, fun o ho => ?_⟩
    have nrp : r ≠ p := src_fresh hS hr0
    have S1 := src_new (o := HO.lst (zs.map V.str)) hS hr0
    have nop : o ≠ p := src_fresh S1 ho
    have nro : r ≠ o := ne_of_none upd_same ho
    have Gr : G r = none := hs.free hr0
    have Go : G o = none := (hs.trans (same_new hr0)).free ho
    refine ⟨_, _, rfl, while_by (fun σ H' => ∃ rs fs : List Str, σ = [some (.ref p), some (.ref l), some (.ref r), some (.ref o)] ∧ Same G H' ∧ H' r = some (.lst (rs.map V.str)) ∧ H' o = some (.lst (fs.map V.str)) ∧ (fs ++ rs).Perm zs ∧ Src H' p (b + fs.length))
      (fun σ H' => match H' r with | some (.lst xs) => xs.length | _ => 0) ?_ ?_ ?_⟩
    · refine ⟨zs, [], rfl, (hs.trans (same_new hr0)).trans (same_new ho), by rw [upd_ne nro]; exact upd_same, upd_same, List.Perm.refl _, src_new S1 ho⟩
    · rintro σ H' ⟨rs, fs, rfl, s1, er, eo, pm, S'⟩
      have lrs : fs.length + rs.length = zs.length := by rw [← List.length_append]; exact pm.length_eq
      have wrs : ∀ z ∈ rs, Word z := fun z hz => hw z (pm.subset (List.mem_append_right _ hz))
      refine ⟨_, rfl, Nat.zero_le _, fun e he => ?_⟩
      have ner : r ≠ e := ne_of_none er he
      have neo : o ≠ e := ne_of_none eo he
      have s2 : Same H' (upd H' e (.lst [])) := same_new he
      refine ⟨.list (rs.map PyData.str), .list [], .lst (SqL.of (s2 _ _ er)) (dps_strs rs), .lst (SqL.of upd_same) .nil, (fine_strs wrs).shaped (by decide), by decide, _, rfl, ?_⟩
      rw [eqv_nil]
      cases rs with
      | nil =>
        refine iteF ?_
        refine ⟨_, rfl, ?_⟩
        refine q _ o fs (s1.trans s2) Go nop (by rw [upd_ne neo]; exact eo) (by simpa using pm) ?_
        have : fs.length = zs.length := by simpa using lrs
        rw [← this]
        exact src_new S' he
      | cons z0 rs =>
        refine iteT ?_
        have S2 := src_new (o := HO.lst []) S' he
        have m0 : (match (upd H' e (.lst [])) r with | some (.lst xs) => xs.length | _ => 0) = (z0 :: rs).length := by
          rw [upd_ne ner, er]
          simp
        refine ⟨_, rfl, .inl ⟨rfl, _, SqL.of (s2 _ _ eo)⟩, _, rfl, .inl ⟨rfl, _, SqL.of (s2 _ _ er)⟩, _, rfl, _, rfl, r, _, rfl, .inl (SqL.of (s2 _ _ er)), p, _, _, del (upd H' e (.lst [])) p, rfl, by simp; omega, by simp at lrs ⊢; omega, S2, by omega, del_at, del_same, fun H2 k k0 k1 s3 S3 => ?_⟩
        have er2 := del_get s3 nrp (s2 _ _ er)
        have eo2 := del_get s3 nop (s2 _ _ eo)
        obtain ⟨j, rfl⟩ : ∃ j : Nat, k = (j : Int) := ⟨_, (Int.toNat_of_nonneg k0).symm⟩
        have hj : j < (z0 :: rs).length := by simp at k1 ⊢; omega
        have hjl : j < 1000 := by simp at hj lrs; omega
        refine ⟨r, _, _, j, .str (z0 :: rs)[j], rfl, rfl, er2, by omega, by omega, ?_, ?_, ?_⟩
        · exact seqIx (by rw [List.length_map]; exact hj)
        · rw [List.getElem?_map, List.getElem?_eq_getElem hj]
          rfl
        · rw [erase_map]
          have lr2 : ((z0 :: rs).eraseIdx j).length = rs.length := by rw [List.length_eraseIdx_of_lt hj]; rfl
          have nor : o ≠ r := nro.symm
          have eo3 : (upd H2 r (.lst (((z0 :: rs).eraseIdx j).map V.str))) o = some (.lst (fs.map V.str)) := by rw [upd_ne nor]; exact eo2
          refine ⟨o, _, _, rfl, rfl, eo3, ?_, ?_, ?_⟩
          · rw [List.length_map]
            exact small1000 (by omega)
          · refine ⟨(z0 :: rs).eraseIdx j, fs ++ [(z0 :: rs)[j]], rfl, ?_, ?_, ?_, ?_, ?_⟩
            · have s4 : Same G H2 := (same_del (s1.trans s2) hG).trans s3
              exact same_at (same_at s4 Gr) Go
            · rw [upd_ne nro]
              exact upd_same
            · rw [upd_same]
              simp
            · refine List.Perm.trans ?_ pm
              rw [List.append_assoc]
              exact List.Perm.append_left fs (erase_perm hj)
            · have := src_at (src_at S3 nrp.symm) nop.symm (o := HO.lst (fs.map V.str ++ [V.str (z0 :: rs)[j]])) (H := upd H2 r (.lst (((z0 :: rs).eraseIdx j).map V.str)))
              refine this.mono ?_
              rw [List.length_append]
              simp
              omega
          · show (match (upd (upd H2 r _) o _) r with | some (.lst xs) => xs.length | _ => 0) < (match H' r with | some (.lst xs) => xs.length | _ => 0)
            rw [upd_ne nro, upd_same, er]
            simp only [List.length_map]
            rw [lr2]
            exact Nat.lt_succ_self _
    · rintro σ' H1 Q1 Q2 hq ⟨v, ev, lv, kv⟩
      exact ⟨v, ev, lv, fun p hp => let ⟨d, e, a1, a2, a3, a4, c, ec, qq⟩ := kv p hp; ⟨d, e, a1, a2, a3, a4, c, ec, hq _ _ qq⟩⟩
end
end K22

set_option Elab.async false
set_option linter.all false
set_option maxRecDepth 100000
set_option maxHeartbeats 4000000
namespace K22
open PySem Nb
open L2 hiding del del_ne del_same
section
variable {P : Program} {w : World} {K : PySem.W.Frag} {mg : Str → Option Value} {base : Heap}
abbrev s_Chain___init : Stmt := clsAt (topS 5) 0
theorem sc_Chain___init : FnScope ["self", "steps"] ["self", "steps"] (defScope s_Chain___init) := ⟨rfl, rfl, rfl, by decide +kernel, rfl, by decide +kernel, by decide +kernel⟩
theorem ok_Chain___init {f : Addr} {fd : FuncData} (F : Fun K "__init__" "Chain.__init__" s_Chain___init f fd) {C_Chain : Addr} (T : Txt mg) (K_Chain : Kl K mg "Chain" C_Chain ["steps"]) : FnOk P w K mg base CX0 1 f fd ["self", "steps"] (spInit1 C_Chain "steps") := by
  refine F.ok sc_Chain___init (fun vs H Q E h => ?_) (fun cdv A outer s H vs Q E hr h => ?_)
  · obtain ⟨m, dx, v, rfl, _⟩ := h
    rfl
  · obtain ⟨m, dx, v, rfl, ho, q⟩ := h
    refine ⟨_, pss_one (ps_fld (pv 0) (pv 1) rfl), ?_⟩
    exact ⟨_, rfl, _, rfl, m, _, dx, _, rfl, ho, K_Chain.cl, K_Chain.no "steps" (by simp), (by show 0 < 1000; decide), q⟩
abbrev s_Ring___init : Stmt := clsAt (topS 7) 0
theorem sc_Ring___init : FnScope ["self", "steps"] ["self", "steps"] (defScope s_Ring___init) := ⟨rfl, rfl, rfl, by decide +kernel, rfl, by decide +kernel, by decide +kernel⟩
theorem ok_Ring___init {f : Addr} {fd : FuncData} (F : Fun K "__init__" "Ring.__init__" s_Ring___init f fd) {C_Ring : Addr} (T : Txt mg) (K_Ring : Kl K mg "Ring" C_Ring ["steps"]) : FnOk P w K mg base CX0 1 f fd ["self", "steps"] (spInit1 C_Ring "steps") := by
  refine F.ok sc_Ring___init (fun vs H Q E h => ?_) (fun cdv A outer s H vs Q E hr h => ?_)
  · obtain ⟨m, dx, v, rfl, _⟩ := h
    rfl
  · obtain ⟨m, dx, v, rfl, ho, q⟩ := h
    refine ⟨_, pss_one (ps_fld (pv 0) (pv 1) rfl), ?_⟩
    exact ⟨_, rfl, _, rfl, m, _, dx, _, rfl, ho, K_Ring.cl, K_Ring.no "steps" (by simp), (by show 0 < 1000; decide), q⟩
abbrev s_Through___init : Stmt := clsAt (topS 6) 0
theorem sc_Through___init : FnScope ["self", "steps", "name"] ["self", "steps", "name"] (defScope s_Through___init) := ⟨rfl, rfl, rfl, by decide +kernel, rfl, by decide +kernel, by decide +kernel⟩
theorem ok_Through___init {f : Addr} {fd : FuncData} (F : Fun K "__init__" "Through.__init__" s_Through___init f fd) {C_Through : Addr} (T : Txt mg) (K_Through : Kl K mg "Through" C_Through ["steps", "name"]) : FnOk P w K mg base CX0 1 f fd ["self", "steps", "name"] (spInit2 C_Through "steps" "name") := by
  refine F.ok sc_Through___init (fun vs H Q E h => ?_) (fun cdv A outer s H vs Q E hr h => ?_)
  · obtain ⟨m, dx, v, w2, rfl, _⟩ := h
    rfl
  · obtain ⟨m, dx, v, w2, rfl, ho, q⟩ := h
    refine ⟨_, pss_cons (ps_fld (pv 0) (pv 1) rfl)
        (pss_one (ps_fld (pv 0) (pv 2) rfl)), ?_⟩
    exact ⟨_, rfl, _, rfl, m, _, dx, _, rfl, ho, K_Through.cl, K_Through.no "steps" (by simp), (by show 0 < 1000; decide), _, rfl, _, rfl, m, _, dx, _, rfl, upd_same, K_Through.cl, K_Through.no "name" (by simp), (by show 1 < 1000; decide), q⟩
abbrev s_Can___init : Stmt := clsAt (topS 9) 0
theorem sc_Can___init : FnScope ["self", "future"] ["self", "future"] (defScope s_Can___init) := ⟨rfl, rfl, rfl, by decide +kernel, rfl, by decide +kernel, by decide +kernel⟩
theorem ok_Can___init {f : Addr} {fd : FuncData} (F : Fun K "__init__" "Can.__init__" s_Can___init f fd) {C_Can : Addr} (T : Txt mg) (K_Can : Kl K mg "Can" C_Can ["future"]) : FnOk P w K mg base CX0 1 f fd ["self", "future"] (spInit1 C_Can "future") := by
  refine F.ok sc_Can___init (fun vs H Q E h => ?_) (fun cdv A outer s H vs Q E hr h => ?_)
  · obtain ⟨m, dx, v, rfl, _⟩ := h
    rfl
  · obtain ⟨m, dx, v, rfl, ho, q⟩ := h
    refine ⟨_, pss_one (ps_fld (pv 0) (pv 1) rfl), ?_⟩
    exact ⟨_, rfl, _, rfl, m, _, dx, _, rfl, ho, K_Can.cl, K_Can.no "future" (by simp), (by show 0 < 1000; decide), q⟩
abbrev s_Stopped___init : Stmt := clsAt (topS 10) 0
theorem sc_Stopped___init : FnScope ["self", "future", "name"] ["self", "future", "name"] (defScope s_Stopped___init) := ⟨rfl, rfl, rfl, by decide +kernel, rfl, by decide +kernel, by decide +kernel⟩
theorem ok_Stopped___init {f : Addr} {fd : FuncData} (F : Fun K "__init__" "Stopped.__init__" s_Stopped___init f fd) {C_Stopped : Addr} (T : Txt mg) (K_Stopped : Kl K mg "Stopped" C_Stopped ["future", "name"]) : FnOk P w K mg base CX0 1 f fd ["self", "future", "name"] (spInit2 C_Stopped "future" "name") := by
  refine F.ok sc_Stopped___init (fun vs H Q E h => ?_) (fun cdv A outer s H vs Q E hr h => ?_)
  · obtain ⟨m, dx, v, w2, rfl, _⟩ := h
    rfl
  · obtain ⟨m, dx, v, w2, rfl, ho, q⟩ := h
    refine ⟨_, pss_cons (ps_fld (pv 0) (pv 1) rfl)
        (pss_one (ps_fld (pv 0) (pv 2) rfl)), ?_⟩
    exact ⟨_, rfl, _, rfl, m, _, dx, _, rfl, ho, K_Stopped.cl, K_Stopped.no "future" (by simp), (by show 0 < 1000; decide), _, rfl, _, rfl, m, _, dx, _, rfl, upd_same, K_Stopped.cl, K_Stopped.no "name" (by simp), (by show 1 < 1000; decide), q⟩
abbrev s_Cannot___init : Stmt := clsAt (topS 11) 0
theorem sc_Cannot___init : FnScope ["self", "reason"] ["self", "reason"] (defScope s_Cannot___init) := ⟨rfl, rfl, rfl, by decide +kernel, rfl, by decide +kernel, by decide +kernel⟩
theorem ok_Cannot___init {f : Addr} {fd : FuncData} (F : Fun K "__init__" "Cannot.__init__" s_Cannot___init f fd) {C_Cannot : Addr} (T : Txt mg) (K_Cannot : Kl K mg "Cannot" C_Cannot ["reason"]) : FnOk P w K mg base CX0 1 f fd ["self", "reason"] (spInit1 C_Cannot "reason") := by
  refine F.ok sc_Cannot___init (fun vs H Q E h => ?_) (fun cdv A outer s H vs Q E hr h => ?_)
  · obtain ⟨m, dx, v, rfl, _⟩ := h
    rfl
  · obtain ⟨m, dx, v, rfl, ho, q⟩ := h
    refine ⟨_, pss_one (ps_fld (pv 0) (pv 1) rfl), ?_⟩
    exact ⟨_, rfl, _, rfl, m, _, dx, _, rfl, ho, K_Cannot.cl, K_Cannot.no "reason" (by simp), (by show 0 < 1000; decide), q⟩
abbrev s_Always___init : Stmt := clsAt (topS 12) 0
theorem sc_Always___init : FnScope ["self", "reasons"] ["self", "reasons"] (defScope s_Always___init) := ⟨rfl, rfl, rfl, by decide +kernel, rfl, by decide +kernel, by decide +kernel⟩
theorem ok_Always___init {f : Addr} {fd : FuncData} (F : Fun K "__init__" "Always.__init__" s_Always___init f fd) {C_Always : Addr} (T : Txt mg) (K_Always : Kl K mg "Always" C_Always ["reasons"]) : FnOk P w K mg base CX0 1 f fd ["self", "reasons"] (spInit1 C_Always "reasons") := by
  refine F.ok sc_Always___init (fun vs H Q E h => ?_) (fun cdv A outer s H vs Q E hr h => ?_)
  · obtain ⟨m, dx, v, rfl, _⟩ := h
    rfl
  · obtain ⟨m, dx, v, rfl, ho, q⟩ := h
    refine ⟨_, pss_one (ps_fld (pv 0) (pv 1) rfl), ?_⟩
    exact ⟨_, rfl, _, rfl, m, _, dx, _, rfl, ho, K_Always.cl, K_Always.no "reasons" (by simp), (by show 0 < 1000; decide), q⟩
abbrev s_step_lines : Stmt := topS 14
theorem sc_step_lines : FnScope ["chain", "x", "y", "c"] ["chain"] (defScope s_step_lines) := ⟨rfl, rfl, rfl, by decide +kernel, rfl, by decide +kernel, by decide +kernel⟩
def sx_step_lines_0 : Scope := { kind := .function, names := [(".0", .local), ("x", .local), ("y", .local), ("c", .local)], isGenerator := false, isCoroutine := false, more := [] }
theorem ok_step_lines {f : Addr} {fd : FuncData} (F : Fun K "_step_lines" "_step_lines" s_step_lines f fd) {C_Always : Addr} {C_Can : Addr} {C_Cannot : Addr} {C_Chain : Addr} {C_Ring : Addr} {C_Stopped : Addr} {C_Through : Addr} (T : Txt mg) (FX : Fx K (⟨C_Chain, C_Ring, C_Through, C_Can, C_Stopped, C_Cannot, C_Always⟩ : Cc)) (KS : ∀ C ∈ [C_Chain, C_Ring, C_Through], NoAttr K C "steps") : FnOk P w K mg base CX0 1 f fd ["chain"] (spStepL (⟨C_Chain, C_Ring, C_Through, C_Can, C_Stopped, C_Cannot, C_Always⟩ : Cc)) := by
  refine F.ok sc_step_lines (fun vs H Q E h => ?_) (fun cdv A outer s H vs Q E hr h => ?_)
  · obtain ⟨a, C, dx, t, fs, ss, rfl, _⟩ := h
    rfl
  · obtain ⟨a, C, dx, t, fs, ss, rfl, mC, ea, l, hs, ok, q⟩ := h
    refine ⟨_, pss_one (ps_ret (pe_lc (own := [("x", 1), ("y", 2), ("c", 3)]) (tt := tYes) rfl sc_step_lines.nd (pi_tup (pe_fld (pv 0) rfl)) (blkOk_by (N := ["chain", "x", "y", "c"]) (sc := (defScope s_step_lines)) (by decide +kernel)) (fun _ _ _ _ _ => (show PG _ _ (gTup K 3 (gCons (gName 1) (gCons (gName 2) (gCons (gName 3) gNil)))) from pg_tup rfl (pgs_cons (pg_name (i := 1) sc_step_lines.nd rfl (Or.inl rfl)) (pgs_cons (pg_name (i := 2) sc_step_lines.nd rfl (Or.inl rfl)) (pgs_cons (pg_name (i := 3) sc_step_lines.nd rfl (Or.inl rfl)) pgs_nil))))) (fun _ _ _ _ _ => pts_nil) (fun _ _ _ _ _ => (pe_joinedN (PJ.cons (pe_fmt (pv 1)) (PJ.cons pe_str (PJ.cons (pe_fmt (pv 2)) (PJ.cons pe_str (PJ.cons (pe_fmt (pv 3)) PJ.nil))))))))), ?_⟩
    obtain ⟨as, et, f⟩ := hs
    have la := f2_len f
    have l10 := ok.2
    have mA : C ∈ (⟨C_Chain, C_Ring, C_Through, C_Can, C_Stopped, C_Cannot, C_Always⟩ : Cc).all := by
      simp only [List.mem_cons, List.not_mem_nil, or_false] at mC
      rcases mC with rfl | rfl | rfl <;> simp [Cc.all]
    refine ⟨_, rfl, a, C, dx, fs, _, rfl, ea, FX.cl C mA, KS C mC, l, t, rfl, ⟨_, SqT.of et⟩, fun D hD => ?_⟩
    refine lcM (walk_tup (K := K) (a := t) (xs := as.map V.ref)) (fun i => .str (stepL (ss.getD i ("", "", "")))) (by rw [List.length_map]; omega) hD (fun H5 s5 => SqT.of (s5 _ _ et)) ?_ ?_
    · rintro i y Ha Hb Nx hi sa ⟨rfl, ey⟩ N
      rw [List.getElem?_map] at ey
      obtain ⟨p, ep, rfl⟩ : ∃ p, as[i]? = some p ∧ y = .ref p := by
        cases e : as[i]? with
        | none => rw [e] at ey; cases ey
        | some p => rw [e] at ey; exact ⟨p, rfl, (Option.some.inj ey).symm⟩
      obtain ⟨s, es, hp⟩ := f2_getl f ep
      obtain ⟨o1, o2, o3⟩ := ok.1 s (List.mem_of_getElem? es)
      have l0 := ap_len (x := PySem.Str.empty) (a := 0) (by decide) o1.2
      have l1 := ap_len (y := " ahead of ") (b := 10) l0 (by decide)
      have l2 := ap_len l1 o2.2
      have l3 := ap_len (y := " in ") (b := 4) l2 (by decide)
      have l4 := ap_len l3 o3.2
      refine ⟨p, _, rfl, SqT.of (sa _ _ hp), rfl, _, _, rfl, _, _, rfl, _, _, rfl, rfl, rfl, ?_⟩
      refine ⟨_, rfl, .inl ⟨s.1, rfl, l100 o1.2 (by decide), s.1, rfl, l100 l0 (by decide), " ahead of ", rfl, l100 l1 (by decide), _, rfl, .inl ⟨s.2.1, rfl, l100 o2.2 (by decide), s.2.1, rfl, l100 l2 (by decide), " in ", rfl, l100 l3 (by decide), _, rfl, .inl ⟨s.2.2, rfl, l100 o3.2 (by decide), s.2.2, rfl, l100 l4 (by decide), ?_⟩⟩⟩⟩
      have e := getD_at (("", "", "") : St3) es
      rw [e] at N
      exact N _ (Same.refl _)
    · intro H2 s2 e2
      refine q H2 D s2 hD ?_
      rw [e2, List.length_map, la, List.map_map]
      exact congrArg (fun z => some (HO.lst z)) (map_range (("", "", "") : St3) (fun s => V.str (stepL s)) ss)
abbrev s_future_line : Stmt := topS 15
theorem sc_future_line : FnScope ["answer"] ["answer"] (defScope s_future_line) := ⟨rfl, rfl, rfl, by decide +kernel, rfl, by decide +kernel, by decide +kernel⟩
theorem ok_future_line {f : Addr} {fd : FuncData} (F : Fun K "_future_line" "_future_line" s_future_line f fd) {C_Always : Addr} {C_Can : Addr} {C_Cannot : Addr} {C_Chain : Addr} {C_Ring : Addr} {C_Stopped : Addr} {C_Through : Addr} (T : Txt mg) (FX : Fx K (⟨C_Chain, C_Ring, C_Through, C_Can, C_Stopped, C_Cannot, C_Always⟩ : Cc)) (KF : ∀ C ∈ [C_Can, C_Stopped], NoAttr K C "future") : FnOk P w K mg base CX0 1 f fd ["answer"] (spFutL (⟨C_Chain, C_Ring, C_Through, C_Can, C_Stopped, C_Cannot, C_Always⟩ : Cc)) := by
  refine F.ok sc_future_line (fun vs H Q E h => ?_) (fun cdv A outer s H vs Q E hr h => ?_)
  · obtain ⟨a, C, dx, t, fs, f, rfl, _⟩ := h
    rfl
  · obtain ⟨a, C, dx, t, fs, f, rfl, mC, ea, l, hf, ok, q⟩ := h
    refine ⟨_, pss_one (ps_ret (pe_join pe_str (pe_lstS (pa_cons pe_str (StX.pa_star (pe_fld (pv 0) rfl) pa_nil))))), ?_⟩
    have l10 := ok.2
    have mA : C ∈ (⟨C_Chain, C_Ring, C_Through, C_Can, C_Stopped, C_Cannot, C_Always⟩ : Cc).all := by
      simp only [List.mem_cons, List.not_mem_nil, or_false] at mC
      rcases mC with rfl | rfl <;> simp [Cc.all]
    refine ⟨⟨_, rfl⟩, _, rfl, a, C, dx, fs, _, rfl, ea, FX.cl C mA, KF C mC, l, t, _, rfl, .inl (SqT.of hf), ?_, fun H2 p s2 n2 e2 => ?_⟩
    · rw [List.append_nil, List.length_cons, List.length_map]
      omega
    refine ⟨" ", p, ("future" : PySem.Str) :: f, rfl, rfl, .inl (SqL.of (by rw [e2, List.append_nil]; rfl)), ?_, q H2 s2⟩
    have h1 : (((("future" : PySem.Str) :: f) : List PySem.Str).map (·.length)).sum ≤ 100 * 11 := sum_len (fun z hz => ?_) (by rw [List.length_cons]; omega)
    · have h2 : ((" " : PySem.Str)).length = 1 := by decide
      rw [h2, List.length_cons]
      omega
    · rcases List.mem_cons.mp hz with rfl | hz
      · decide
      · exact (ok.1 z hz).2
end
theorem is_chain {c : Cc} (nd : c.all.Nodup) {x : Ob} (h : c.of x = c.chain) : ∃ ss, x = Ob.chain ss := by
  simp only [Cc.all, List.nodup_cons, List.mem_cons, List.not_mem_nil, or_false, not_or] at nd
  cases x <;> first | exact ⟨_, rfl⟩ | exact ⟨_, _, rfl⟩ | (exfalso; simp only [Cc.of] at h; simp_all)
theorem is_ring {c : Cc} (nd : c.all.Nodup) {x : Ob} (h : c.of x = c.ring) : ∃ ss, x = Ob.ring ss := by
  simp only [Cc.all, List.nodup_cons, List.mem_cons, List.not_mem_nil, or_false, not_or] at nd
  cases x <;> first | exact ⟨_, rfl⟩ | exact ⟨_, _, rfl⟩ | (exfalso; simp only [Cc.of] at h; simp_all)
theorem is_thr {c : Cc} (nd : c.all.Nodup) {x : Ob} (h : c.of x = c.thr) : ∃ ss n, x = Ob.thr ss n := by
  simp only [Cc.all, List.nodup_cons, List.mem_cons, List.not_mem_nil, or_false, not_or] at nd
  cases x <;> first | exact ⟨_, rfl⟩ | exact ⟨_, _, rfl⟩ | (exfalso; simp only [Cc.of] at h; simp_all)
theorem is_can {c : Cc} (nd : c.all.Nodup) {x : Ob} (h : c.of x = c.can) : ∃ f, x = Ob.can f := by
  simp only [Cc.all, List.nodup_cons, List.mem_cons, List.not_mem_nil, or_false, not_or] at nd
  cases x <;> first | exact ⟨_, rfl⟩ | exact ⟨_, _, rfl⟩ | (exfalso; simp only [Cc.of] at h; simp_all)
theorem is_stp {c : Cc} (nd : c.all.Nodup) {x : Ob} (h : c.of x = c.stp) : ∃ f n, x = Ob.stp f n := by
  simp only [Cc.all, List.nodup_cons, List.mem_cons, List.not_mem_nil, or_false, not_or] at nd
  cases x <;> first | exact ⟨_, rfl⟩ | exact ⟨_, _, rfl⟩ | (exfalso; simp only [Cc.of] at h; simp_all)
theorem is_cant {c : Cc} (nd : c.all.Nodup) {x : Ob} (h : c.of x = c.cant) : ∃ k ss, x = Ob.cant k ss := by
  simp only [Cc.all, List.nodup_cons, List.mem_cons, List.not_mem_nil, or_false, not_or] at nd
  cases x <;> first | exact ⟨_, rfl⟩ | exact ⟨_, _, rfl⟩ | (exfalso; simp only [Cc.of] at h; simp_all)
theorem is_alw {c : Cc} (nd : c.all.Nodup) {x : Ob} (h : c.of x = c.alw) : ∃ rs, x = Ob.alw rs := by
  simp only [Cc.all, List.nodup_cons, List.mem_cons, List.not_mem_nil, or_false, not_or] at nd
  cases x <;> first | exact ⟨_, rfl⟩ | exact ⟨_, _, rfl⟩ | (exfalso; simp only [Cc.of] at h; simp_all)
section
variable {P : Program} {w : World} {K : PySem.W.Frag} {mg : Str → Option Value} {base : Heap}
abbrev s_Chain___eq : Stmt := clsAt (topS 5) 1
theorem sc_Chain___eq : FnScope ["self", "other"] ["self", "other"] (defScope s_Chain___eq) := ⟨rfl, rfl, rfl, by decide +kernel, rfl, by decide +kernel, by decide +kernel⟩
theorem ok_Chain___eq {f : Addr} {fd : FuncData} (F : Fun K "__eq__" "Chain.__eq__" s_Chain___eq f fd) {C_Always : Addr} {C_Can : Addr} {C_Cannot : Addr} {C_Chain : Addr} {C_Ring : Addr} {C_Stopped : Addr} {C_Through : Addr} (T : Txt mg) (K_Chain : Kl K mg "Chain" C_Chain ["steps"]) (FX : Fx K (⟨C_Chain, C_Ring, C_Through, C_Can, C_Stopped, C_Cannot, C_Always⟩ : Cc)) : FnOk P w K mg base CX0 1 f fd ["self", "other"] (spEqO (⟨C_Chain, C_Ring, C_Through, C_Can, C_Stopped, C_Cannot, C_Always⟩ : Cc) C_Chain) := by
  refine F.ok sc_Chain___eq (fun vs H Q E h => ?_) (fun cdv A outer s H vs Q E hr h => ?_)
  · obtain ⟨a, b, x, y, rfl, _⟩ := h
    rfl
  · obtain ⟨a, b, x, y, rfl, ex, ha, hb, ox, oy, eo, q⟩ := h
    refine ⟨_, pss_one (ps_ret (pe_and (pe_cmpR op_is_cls (pe_callTy cr_type (by rfl) T.type (by decide +kernel) (pa_cons (pv 0) pa_nil)) (pe_callTy cr_type (by rfl) T.type (by decide +kernel) (pa_cons (pv 1) pa_nil)) (nomark _)) (pe_one (pe_cmpR (op_eqD hr.units) (pe_fld (pv 0) rfl) (pe_fld (pv 1) rfl) (nomark _))))), ?_⟩
    obtain ⟨ss, rfl⟩ : ∃ ss, x = Ob.chain ss := is_chain FX.nd ex
    obtain ⟨dy, fy, eb, _⟩ := ob_ins hb
    obtain ⟨dx, t, ea, ka⟩ := id ha
    have isT : C_Chain = (⟨C_Chain, C_Ring, C_Through, C_Can, C_Stopped, C_Cannot, C_Always⟩ : Cc).of y ∨ (PySem.W.makesIn K C_Chain = true ∧ PySem.W.makesIn K ((⟨C_Chain, C_Ring, C_Through, C_Can, C_Stopped, C_Cannot, C_Always⟩ : Cc).of y) = true) := .inr ⟨FX.mks _ (by simp [Cc.all]), FX.mks _ ((⟨C_Chain, C_Ring, C_Through, C_Can, C_Stopped, C_Cannot, C_Always⟩ : Cc).mem y)⟩
    refine ⟨_, rfl, a, C_Chain, dx, _, rfl, ea, _, rfl, b, (⟨C_Chain, C_Ring, C_Through, C_Can, C_Stopped, C_Cannot, C_Always⟩ : Cc).of y, dy, fy, rfl, eb, C_Chain, (⟨C_Chain, C_Ring, C_Through, C_Can, C_Stopped, C_Cannot, C_Always⟩ : Cc).of y, rfl, rfl, isT, decide (C_Chain = (⟨C_Chain, C_Ring, C_Through, C_Can, C_Stopped, C_Cannot, C_Always⟩ : Cc).of y), rfl, ?_⟩
    by_cases e : C_Chain = (⟨C_Chain, C_Ring, C_Through, C_Can, C_Stopped, C_Cannot, C_Always⟩ : Cc).of y
    · rw [decide_eq_true e]
      refine iteT ?_
      obtain ⟨ss', rfl⟩ : ∃ ss', y = Ob.chain ss' := is_chain FX.nd e.symm
      obtain ⟨dy', t', eb', kb⟩ := hb
      refine ⟨_, rfl, a, C_Chain, dx, _, _, rfl, ea, K_Chain.cl, K_Chain.no "steps" (by simp), rfl, _, rfl, b, C_Chain, dy', _, _, rfl, eb', K_Chain.cl, K_Chain.no "steps" (by simp), rfl, stsD ss, stsD ss', dp_steps ka, dp_steps kb, (fine_steps ox).shaped (by decide), (fine_steps oy).shaped (by decide), ?_⟩
      rw [eqv_sts]
      have z := q H (Same.refl _)
      have e2 : decide (Ob.chain ss = Ob.chain ss') = decide (ss = ss') := by simp
      rwa [e2] at z
    · rw [decide_eq_false e]
      refine iteF ?_
      have z := q H (Same.refl _)
      rwa [not_of (c := (⟨C_Chain, C_Ring, C_Through, C_Can, C_Stopped, C_Cannot, C_Always⟩ : Cc)) (x := Ob.chain ss) (y := y) e] at z
abbrev s_Ring___eq : Stmt := clsAt (topS 7) 1
theorem sc_Ring___eq : FnScope ["self", "other"] ["self", "other"] (defScope s_Ring___eq) := ⟨rfl, rfl, rfl, by decide +kernel, rfl, by decide +kernel, by decide +kernel⟩
theorem ok_Ring___eq {f : Addr} {fd : FuncData} (F : Fun K "__eq__" "Ring.__eq__" s_Ring___eq f fd) {C_Always : Addr} {C_Can : Addr} {C_Cannot : Addr} {C_Chain : Addr} {C_Ring : Addr} {C_Stopped : Addr} {C_Through : Addr} (T : Txt mg) (K_Ring : Kl K mg "Ring" C_Ring ["steps"]) (FX : Fx K (⟨C_Chain, C_Ring, C_Through, C_Can, C_Stopped, C_Cannot, C_Always⟩ : Cc)) : FnOk P w K mg base CX0 1 f fd ["self", "other"] (spEqO (⟨C_Chain, C_Ring, C_Through, C_Can, C_Stopped, C_Cannot, C_Always⟩ : Cc) C_Ring) := by
  refine F.ok sc_Ring___eq (fun vs H Q E h => ?_) (fun cdv A outer s H vs Q E hr h => ?_)
  · obtain ⟨a, b, x, y, rfl, _⟩ := h
    rfl
  · obtain ⟨a, b, x, y, rfl, ex, ha, hb, ox, oy, eo, q⟩ := h
    refine ⟨_, pss_one (ps_ret (pe_and (pe_cmpR op_is_cls (pe_callTy cr_type (by rfl) T.type (by decide +kernel) (pa_cons (pv 0) pa_nil)) (pe_callTy cr_type (by rfl) T.type (by decide +kernel) (pa_cons (pv 1) pa_nil)) (nomark _)) (pe_one (pe_cmpR (op_eqD hr.units) (pe_fld (pv 0) rfl) (pe_fld (pv 1) rfl) (nomark _))))), ?_⟩
    obtain ⟨ss, rfl⟩ : ∃ ss, x = Ob.ring ss := is_ring FX.nd ex
    obtain ⟨dy, fy, eb, _⟩ := ob_ins hb
    obtain ⟨dx, t, ea, ka⟩ := id ha
    have isT : C_Ring = (⟨C_Chain, C_Ring, C_Through, C_Can, C_Stopped, C_Cannot, C_Always⟩ : Cc).of y ∨ (PySem.W.makesIn K C_Ring = true ∧ PySem.W.makesIn K ((⟨C_Chain, C_Ring, C_Through, C_Can, C_Stopped, C_Cannot, C_Always⟩ : Cc).of y) = true) := .inr ⟨FX.mks _ (by simp [Cc.all]), FX.mks _ ((⟨C_Chain, C_Ring, C_Through, C_Can, C_Stopped, C_Cannot, C_Always⟩ : Cc).mem y)⟩
    refine ⟨_, rfl, a, C_Ring, dx, _, rfl, ea, _, rfl, b, (⟨C_Chain, C_Ring, C_Through, C_Can, C_Stopped, C_Cannot, C_Always⟩ : Cc).of y, dy, fy, rfl, eb, C_Ring, (⟨C_Chain, C_Ring, C_Through, C_Can, C_Stopped, C_Cannot, C_Always⟩ : Cc).of y, rfl, rfl, isT, decide (C_Ring = (⟨C_Chain, C_Ring, C_Through, C_Can, C_Stopped, C_Cannot, C_Always⟩ : Cc).of y), rfl, ?_⟩
    by_cases e : C_Ring = (⟨C_Chain, C_Ring, C_Through, C_Can, C_Stopped, C_Cannot, C_Always⟩ : Cc).of y
    · rw [decide_eq_true e]
      refine iteT ?_
      obtain ⟨ss', rfl⟩ : ∃ ss', y = Ob.ring ss' := is_ring FX.nd e.symm
      obtain ⟨dy', t', eb', kb⟩ := hb
      refine ⟨_, rfl, a, C_Ring, dx, _, _, rfl, ea, K_Ring.cl, K_Ring.no "steps" (by simp), rfl, _, rfl, b, C_Ring, dy', _, _, rfl, eb', K_Ring.cl, K_Ring.no "steps" (by simp), rfl, stsD ss, stsD ss', dp_steps ka, dp_steps kb, (fine_steps ox).shaped (by decide), (fine_steps oy).shaped (by decide), ?_⟩
      rw [eqv_sts]
      have z := q H (Same.refl _)
      have e2 : decide (Ob.ring ss = Ob.ring ss') = decide (ss = ss') := by simp
      rwa [e2] at z
    · rw [decide_eq_false e]
      refine iteF ?_
      have z := q H (Same.refl _)
      rwa [not_of (c := (⟨C_Chain, C_Ring, C_Through, C_Can, C_Stopped, C_Cannot, C_Always⟩ : Cc)) (x := Ob.ring ss) (y := y) e] at z
abbrev s_Can___eq : Stmt := clsAt (topS 9) 1
theorem sc_Can___eq : FnScope ["self", "other"] ["self", "other"] (defScope s_Can___eq) := ⟨rfl, rfl, rfl, by decide +kernel, rfl, by decide +kernel, by decide +kernel⟩
theorem ok_Can___eq {f : Addr} {fd : FuncData} (F : Fun K "__eq__" "Can.__eq__" s_Can___eq f fd) {C_Always : Addr} {C_Can : Addr} {C_Cannot : Addr} {C_Chain : Addr} {C_Ring : Addr} {C_Stopped : Addr} {C_Through : Addr} (T : Txt mg) (K_Can : Kl K mg "Can" C_Can ["future"]) (FX : Fx K (⟨C_Chain, C_Ring, C_Through, C_Can, C_Stopped, C_Cannot, C_Always⟩ : Cc)) : FnOk P w K mg base CX0 1 f fd ["self", "other"] (spEqO (⟨C_Chain, C_Ring, C_Through, C_Can, C_Stopped, C_Cannot, C_Always⟩ : Cc) C_Can) := by
  refine F.ok sc_Can___eq (fun vs H Q E h => ?_) (fun cdv A outer s H vs Q E hr h => ?_)
  · obtain ⟨a, b, x, y, rfl, _⟩ := h
    rfl
  · obtain ⟨a, b, x, y, rfl, ex, ha, hb, ox, oy, eo, q⟩ := h
    refine ⟨_, pss_one (ps_ret (pe_and (pe_cmpR op_is_cls (pe_callTy cr_type (by rfl) T.type (by decide +kernel) (pa_cons (pv 0) pa_nil)) (pe_callTy cr_type (by rfl) T.type (by decide +kernel) (pa_cons (pv 1) pa_nil)) (nomark _)) (pe_one (pe_cmpR (op_eqD hr.units) (pe_fld (pv 0) rfl) (pe_fld (pv 1) rfl) (nomark _))))), ?_⟩
    obtain ⟨f, rfl⟩ : ∃ f, x = Ob.can f := is_can FX.nd ex
    obtain ⟨dy, fy, eb, _⟩ := ob_ins hb
    obtain ⟨dx, t, ea, ka⟩ := id ha
    have isT : C_Can = (⟨C_Chain, C_Ring, C_Through, C_Can, C_Stopped, C_Cannot, C_Always⟩ : Cc).of y ∨ (PySem.W.makesIn K C_Can = true ∧ PySem.W.makesIn K ((⟨C_Chain, C_Ring, C_Through, C_Can, C_Stopped, C_Cannot, C_Always⟩ : Cc).of y) = true) := .inr ⟨FX.mks _ (by simp [Cc.all]), FX.mks _ ((⟨C_Chain, C_Ring, C_Through, C_Can, C_Stopped, C_Cannot, C_Always⟩ : Cc).mem y)⟩
    refine ⟨_, rfl, a, C_Can, dx, _, rfl, ea, _, rfl, b, (⟨C_Chain, C_Ring, C_Through, C_Can, C_Stopped, C_Cannot, C_Always⟩ : Cc).of y, dy, fy, rfl, eb, C_Can, (⟨C_Chain, C_Ring, C_Through, C_Can, C_Stopped, C_Cannot, C_Always⟩ : Cc).of y, rfl, rfl, isT, decide (C_Can = (⟨C_Chain, C_Ring, C_Through, C_Can, C_Stopped, C_Cannot, C_Always⟩ : Cc).of y), rfl, ?_⟩
    by_cases e : C_Can = (⟨C_Chain, C_Ring, C_Through, C_Can, C_Stopped, C_Cannot, C_Always⟩ : Cc).of y
    · rw [decide_eq_true e]
      refine iteT ?_
      obtain ⟨f', rfl⟩ : ∃ f', y = Ob.can f' := is_can FX.nd e.symm
      obtain ⟨dy', t', eb', kb⟩ := hb
      refine ⟨_, rfl, a, C_Can, dx, _, _, rfl, ea, K_Can.cl, K_Can.no "future" (by simp), rfl, _, rfl, b, C_Can, dy', _, _, rfl, eb', K_Can.cl, K_Can.no "future" (by simp), rfl, .tuple (f.map PyData.str), .tuple (f'.map PyData.str), .tup (SqT.of ka) (dps_strs f), .tup (SqT.of kb) (dps_strs f'), (fine_fut ox).shaped (by decide), (fine_fut oy).shaped (by decide), ?_⟩
      rw [eqv_futs]
      have z := q H (Same.refl _)
      have e2 : decide (Ob.can f = Ob.can f') = decide (f = f') := by simp
      rwa [e2] at z
    · rw [decide_eq_false e]
      refine iteF ?_
      have z := q H (Same.refl _)
      rwa [not_of (c := (⟨C_Chain, C_Ring, C_Through, C_Can, C_Stopped, C_Cannot, C_Always⟩ : Cc)) (x := Ob.can f) (y := y) e] at z
abbrev s_Through___eq : Stmt := clsAt (topS 6) 1
theorem sc_Through___eq : FnScope ["self", "other"] ["self", "other"] (defScope s_Through___eq) := ⟨rfl, rfl, rfl, by decide +kernel, rfl, by decide +kernel, by decide +kernel⟩
theorem ok_Through___eq {f : Addr} {fd : FuncData} (F : Fun K "__eq__" "Through.__eq__" s_Through___eq f fd) {C_Always : Addr} {C_Can : Addr} {C_Cannot : Addr} {C_Chain : Addr} {C_Ring : Addr} {C_Stopped : Addr} {C_Through : Addr} (T : Txt mg) (K_Through : Kl K mg "Through" C_Through ["steps", "name"]) (FX : Fx K (⟨C_Chain, C_Ring, C_Through, C_Can, C_Stopped, C_Cannot, C_Always⟩ : Cc)) : FnOk P w K mg base CX0 1 f fd ["self", "other"] (spEqO (⟨C_Chain, C_Ring, C_Through, C_Can, C_Stopped, C_Cannot, C_Always⟩ : Cc) C_Through) := by
  refine F.ok sc_Through___eq (fun vs H Q E h => ?_) (fun cdv A outer s H vs Q E hr h => ?_)
  · obtain ⟨a, b, x, y, rfl, _⟩ := h
    rfl
  · obtain ⟨a, b, x, y, rfl, ex, ha, hb, ox, oy, eo, q⟩ := h
    refine ⟨_, pss_one (ps_ret (pe_and (pe_cmpR op_is_cls (pe_callTy cr_type (by rfl) T.type (by decide +kernel) (pa_cons (pv 0) pa_nil)) (pe_callTy cr_type (by rfl) T.type (by decide +kernel) (pa_cons (pv 1) pa_nil)) (nomark _)) (pe_and (pe_cmpR (op_eqD hr.units) (pe_fld (pv 0) rfl) (pe_fld (pv 1) rfl) (nomark _)) (pe_one (pe_cmpR op_eq (pe_fld (pv 0) rfl) (pe_fld (pv 1) rfl) (nomark _)))))), ?_⟩
    obtain ⟨ss, n, rfl⟩ : ∃ ss n, x = Ob.thr ss n := is_thr FX.nd ex
    obtain ⟨dy, fy, eb, _⟩ := ob_ins hb
    obtain ⟨dx, t, ea, ka⟩ := id ha
    have isT : C_Through = (⟨C_Chain, C_Ring, C_Through, C_Can, C_Stopped, C_Cannot, C_Always⟩ : Cc).of y ∨ (PySem.W.makesIn K C_Through = true ∧ PySem.W.makesIn K ((⟨C_Chain, C_Ring, C_Through, C_Can, C_Stopped, C_Cannot, C_Always⟩ : Cc).of y) = true) := .inr ⟨FX.mks _ (by simp [Cc.all]), FX.mks _ ((⟨C_Chain, C_Ring, C_Through, C_Can, C_Stopped, C_Cannot, C_Always⟩ : Cc).mem y)⟩
    refine ⟨_, rfl, a, C_Through, dx, _, rfl, ea, _, rfl, b, (⟨C_Chain, C_Ring, C_Through, C_Can, C_Stopped, C_Cannot, C_Always⟩ : Cc).of y, dy, fy, rfl, eb, C_Through, (⟨C_Chain, C_Ring, C_Through, C_Can, C_Stopped, C_Cannot, C_Always⟩ : Cc).of y, rfl, rfl, isT, decide (C_Through = (⟨C_Chain, C_Ring, C_Through, C_Can, C_Stopped, C_Cannot, C_Always⟩ : Cc).of y), rfl, ?_⟩
    by_cases e : C_Through = (⟨C_Chain, C_Ring, C_Through, C_Can, C_Stopped, C_Cannot, C_Always⟩ : Cc).of y
    · rw [decide_eq_true e]
      refine iteT ?_
      obtain ⟨ss', n', rfl⟩ : ∃ ss' n', y = Ob.thr ss' n' := is_thr FX.nd e.symm
      obtain ⟨dy', t', eb', kb⟩ := hb
      refine ⟨_, rfl, a, C_Through, dx, _, _, rfl, ea, K_Through.cl, K_Through.no "steps" (by simp), rfl, _, rfl, b, C_Through, dy', _, _, rfl, eb', K_Through.cl, K_Through.no "steps" (by simp), rfl, stsD ss, stsD ss', dp_steps ka, dp_steps kb, (fine_steps ox.1).shaped (by decide), (fine_steps oy.1).shaped (by decide), _, rfl, ?_⟩
      rw [eqv_sts]
      have z := q H (Same.refl _)
      by_cases e1 : ss = ss'
      · rw [decide_eq_true e1]
        subst e1
        refine iteT ⟨_, rfl, a, C_Through, dx, _, _, rfl, ea, K_Through.cl, K_Through.no "name" (by simp), rfl, _, rfl, b, C_Through, dy', _, _, rfl, eb', K_Through.cl, K_Through.no "name" (by simp), rfl, rfl, ?_⟩
        rw [dec_str]
        have e2 : decide (Ob.thr ss n = Ob.thr ss n') = decide (n = n') := by simp
        rwa [e2] at z
      · rw [decide_eq_false e1]
        refine iteF ?_
        have e2 : decide (Ob.thr ss n = Ob.thr ss' n') = false := decide_eq_false fun k => e1 (by injection k)
        rwa [e2] at z
    · rw [decide_eq_false e]
      refine iteF ?_
      have z := q H (Same.refl _)
      rwa [not_of (c := (⟨C_Chain, C_Ring, C_Through, C_Can, C_Stopped, C_Cannot, C_Always⟩ : Cc)) (x := Ob.thr ss n) (y := y) e] at z
abbrev s_Stopped___eq : Stmt := clsAt (topS 10) 1
theorem sc_Stopped___eq : FnScope ["self", "other"] ["self", "other"] (defScope s_Stopped___eq) := ⟨rfl, rfl, rfl, by decide +kernel, rfl, by decide +kernel, by decide +kernel⟩
theorem ok_Stopped___eq {f : Addr} {fd : FuncData} (F : Fun K "__eq__" "Stopped.__eq__" s_Stopped___eq f fd) {C_Always : Addr} {C_Can : Addr} {C_Cannot : Addr} {C_Chain : Addr} {C_Ring : Addr} {C_Stopped : Addr} {C_Through : Addr} (T : Txt mg) (K_Stopped : Kl K mg "Stopped" C_Stopped ["future", "name"]) (FX : Fx K (⟨C_Chain, C_Ring, C_Through, C_Can, C_Stopped, C_Cannot, C_Always⟩ : Cc)) : FnOk P w K mg base CX0 1 f fd ["self", "other"] (spEqO (⟨C_Chain, C_Ring, C_Through, C_Can, C_Stopped, C_Cannot, C_Always⟩ : Cc) C_Stopped) := by
  refine F.ok sc_Stopped___eq (fun vs H Q E h => ?_) (fun cdv A outer s H vs Q E hr h => ?_)
  · obtain ⟨a, b, x, y, rfl, _⟩ := h
    rfl
  · obtain ⟨a, b, x, y, rfl, ex, ha, hb, ox, oy, eo, q⟩ := h
    refine ⟨_, pss_one (ps_ret (pe_and (pe_cmpR op_is_cls (pe_callTy cr_type (by rfl) T.type (by decide +kernel) (pa_cons (pv 0) pa_nil)) (pe_callTy cr_type (by rfl) T.type (by decide +kernel) (pa_cons (pv 1) pa_nil)) (nomark _)) (pe_and (pe_cmpR (op_eqD hr.units) (pe_fld (pv 0) rfl) (pe_fld (pv 1) rfl) (nomark _)) (pe_one (pe_cmpR op_eq (pe_fld (pv 0) rfl) (pe_fld (pv 1) rfl) (nomark _)))))), ?_⟩
    obtain ⟨f, n, rfl⟩ : ∃ f n, x = Ob.stp f n := is_stp FX.nd ex
    obtain ⟨dy, fy, eb, _⟩ := ob_ins hb
    obtain ⟨dx, t, ea, ka⟩ := id ha
    have isT : C_Stopped = (⟨C_Chain, C_Ring, C_Through, C_Can, C_Stopped, C_Cannot, C_Always⟩ : Cc).of y ∨ (PySem.W.makesIn K C_Stopped = true ∧ PySem.W.makesIn K ((⟨C_Chain, C_Ring, C_Through, C_Can, C_Stopped, C_Cannot, C_Always⟩ : Cc).of y) = true) := .inr ⟨FX.mks _ (by simp [Cc.all]), FX.mks _ ((⟨C_Chain, C_Ring, C_Through, C_Can, C_Stopped, C_Cannot, C_Always⟩ : Cc).mem y)⟩
    refine ⟨_, rfl, a, C_Stopped, dx, _, rfl, ea, _, rfl, b, (⟨C_Chain, C_Ring, C_Through, C_Can, C_Stopped, C_Cannot, C_Always⟩ : Cc).of y, dy, fy, rfl, eb, C_Stopped, (⟨C_Chain, C_Ring, C_Through, C_Can, C_Stopped, C_Cannot, C_Always⟩ : Cc).of y, rfl, rfl, isT, decide (C_Stopped = (⟨C_Chain, C_Ring, C_Through, C_Can, C_Stopped, C_Cannot, C_Always⟩ : Cc).of y), rfl, ?_⟩
    by_cases e : C_Stopped = (⟨C_Chain, C_Ring, C_Through, C_Can, C_Stopped, C_Cannot, C_Always⟩ : Cc).of y
    · rw [decide_eq_true e]
      refine iteT ?_
      obtain ⟨f', n', rfl⟩ : ∃ f' n', y = Ob.stp f' n' := is_stp FX.nd e.symm
      obtain ⟨dy', t', eb', kb⟩ := hb
      refine ⟨_, rfl, a, C_Stopped, dx, _, _, rfl, ea, K_Stopped.cl, K_Stopped.no "future" (by simp), rfl, _, rfl, b, C_Stopped, dy', _, _, rfl, eb', K_Stopped.cl, K_Stopped.no "future" (by simp), rfl, .tuple (f.map PyData.str), .tuple (f'.map PyData.str), .tup (SqT.of ka) (dps_strs f), .tup (SqT.of kb) (dps_strs f'), (fine_fut ox.1).shaped (by decide), (fine_fut oy.1).shaped (by decide), _, rfl, ?_⟩
      rw [eqv_futs]
      have z := q H (Same.refl _)
      by_cases e1 : f = f'
      · rw [decide_eq_true e1]
        subst e1
        refine iteT ⟨_, rfl, a, C_Stopped, dx, _, _, rfl, ea, K_Stopped.cl, K_Stopped.no "name" (by simp), rfl, _, rfl, b, C_Stopped, dy', _, _, rfl, eb', K_Stopped.cl, K_Stopped.no "name" (by simp), rfl, rfl, ?_⟩
        rw [dec_str]
        have e2 : decide (Ob.stp f n = Ob.stp f n') = decide (n = n') := by simp
        rwa [e2] at z
      · rw [decide_eq_false e1]
        refine iteF ?_
        have e2 : decide (Ob.stp f n = Ob.stp f' n') = false := decide_eq_false fun k => e1 (by injection k)
        rwa [e2] at z
    · rw [decide_eq_false e]
      refine iteF ?_
      have z := q H (Same.refl _)
      rwa [not_of (c := (⟨C_Chain, C_Ring, C_Through, C_Can, C_Stopped, C_Cannot, C_Always⟩ : Cc)) (x := Ob.stp f n) (y := y) e] at z
end
theorem mem3 {a b c : Addr} {p : Addr → Prop} (h1 : p a) (h2 : p b) (h3 : p c) : ∀ x ∈ [a, b, c], p x := fun x h => by
  rcases List.mem_cons.mp h with h | h
  · exact h ▸ h1
  rcases List.mem_cons.mp h with h | h
  · exact h ▸ h2
  · exact (List.mem_singleton.mp h) ▸ h3
theorem eqs3 {K : PySem.W.Frag} {c : Cc} (F : Fx K c) : Eqs K [c.chain, c.ring, c.thr] := by
  have sub : ∀ x ∈ [c.chain, c.ring, c.thr], x ∈ c.all := by simp [Cc.all]
  exact ⟨fun C m => F.eq.ne C (sub C m), fun C m => F.eq.ob C (sub C m), fun C m D m' => F.eq.sub C (sub C m) D (sub D m')⟩
theorem rsn_mem {c : Cc} (k : Bool) (ss : List St3) : c.of (.rsn k ss) ∈ [c.chain, c.ring, c.thr] := by
  cases k <;> simp [Cc.of, Ob.rsn]
theorem rsn_inj {k k' : Bool} {ss ss' : List St3} : decide (Ob.rsn k ss = Ob.rsn k' ss') = decide (k = k' ∧ ss = ss') := by
  cases k <;> cases k' <;> simp [Ob.rsn]
theorem rsn_ok {k : Bool} {ss : List St3} (h : Ok3 ss) : OkO (.rsn k ss) := by
  cases k <;> exact h
theorem rsn_eo {k k' : Bool} {ss ss' : List St3} : EqOk (.rsn k ss) (.rsn k' ss') := by
  cases k <;> cases k' <;> exact trivial
section
variable {P : Program} {w : World} {K : PySem.W.Frag} {mg : Str → Option Value} {base : Heap}
abbrev s_Cannot___eq : Stmt := clsAt (topS 11) 1
theorem sc_Cannot___eq : FnScope ["self", "other"] ["self", "other"] (defScope s_Cannot___eq) := ⟨rfl, rfl, rfl, by decide +kernel, rfl, by decide +kernel, by decide +kernel⟩
theorem ok_Cannot___eq {f : Addr} {fd : FuncData} (F : Fun K "__eq__" "Cannot.__eq__" s_Cannot___eq f fd) {C_Always : Addr} {C_Can : Addr} {C_Cannot : Addr} {C_Chain : Addr} {C_Ring : Addr} {C_Stopped : Addr} {C_Through : Addr} (T : Txt mg) (K_Cannot : Kl K mg "Cannot" C_Cannot ["reason"]) (D_Chain___eq : Mn P w K mg base CX0 1 C_Chain "__eq__" ["self", "other"] (spEqO (⟨C_Chain, C_Ring, C_Through, C_Can, C_Stopped, C_Cannot, C_Always⟩ : Cc) C_Chain)) (D_Ring___eq : Mn P w K mg base CX0 1 C_Ring "__eq__" ["self", "other"] (spEqO (⟨C_Chain, C_Ring, C_Through, C_Can, C_Stopped, C_Cannot, C_Always⟩ : Cc) C_Ring)) (D_Through___eq : Mn P w K mg base CX0 1 C_Through "__eq__" ["self", "other"] (spEqO (⟨C_Chain, C_Ring, C_Through, C_Can, C_Stopped, C_Cannot, C_Always⟩ : Cc) C_Through)) (FX : Fx K (⟨C_Chain, C_Ring, C_Through, C_Can, C_Stopped, C_Cannot, C_Always⟩ : Cc)) : FnOk P w K mg base CX0 4 f fd ["self", "other"] (spEqO (⟨C_Chain, C_Ring, C_Through, C_Can, C_Stopped, C_Cannot, C_Always⟩ : Cc) C_Cannot) := by
  refine F.ok sc_Cannot___eq (fun vs H Q E h => ?_) (fun cdv A outer s H vs Q E hr h => ?_)
  · obtain ⟨a, b, x, y, rfl, _⟩ := h
    rfl
  · obtain ⟨a, b, x, y, rfl, ex, ha, hb, ox, oy, eo, q⟩ := h
    refine ⟨_, pss_one (ps_ret (pe_and (pe_cmpR op_is_cls (pe_callTy cr_type (by rfl) T.type (by decide +kernel) (pa_cons (pv 0) pa_nil)) (pe_callTy cr_type (by rfl) T.type (by decide +kernel) (pa_cons (pv 1) pa_nil)) (nomark _)) (pe_one (pe_cmpR (op_eqP (n := 3) (sp := spEqO (⟨C_Chain, C_Ring, C_Through, C_Can, C_Stopped, C_Cannot, C_Always⟩ : Cc)) (eqs3 FX) (mem3 (D_Chain___eq.om.up (by decide)) (D_Ring___eq.om.up (by decide)) (D_Through___eq.om.up (by decide))) (hr.mono (by decide)) pass0) (pe_fld (pv 0) rfl) (pe_fld (pv 1) rfl) (nomark _))))), ?_⟩
    obtain ⟨k, ss, rfl⟩ : ∃ k ss, x = Ob.cant k ss := is_cant FX.nd ex
    obtain ⟨dy, fy, eb, _⟩ := ob_ins hb
    obtain ⟨dx, t, ea, ka⟩ := id ha
    have isT : C_Cannot = (⟨C_Chain, C_Ring, C_Through, C_Can, C_Stopped, C_Cannot, C_Always⟩ : Cc).of y ∨ (PySem.W.makesIn K C_Cannot = true ∧ PySem.W.makesIn K ((⟨C_Chain, C_Ring, C_Through, C_Can, C_Stopped, C_Cannot, C_Always⟩ : Cc).of y) = true) := .inr ⟨FX.mks _ (by simp [Cc.all]), FX.mks _ ((⟨C_Chain, C_Ring, C_Through, C_Can, C_Stopped, C_Cannot, C_Always⟩ : Cc).mem y)⟩
    refine ⟨_, rfl, a, C_Cannot, dx, _, rfl, ea, _, rfl, b, (⟨C_Chain, C_Ring, C_Through, C_Can, C_Stopped, C_Cannot, C_Always⟩ : Cc).of y, dy, fy, rfl, eb, C_Cannot, (⟨C_Chain, C_Ring, C_Through, C_Can, C_Stopped, C_Cannot, C_Always⟩ : Cc).of y, rfl, rfl, isT, decide (C_Cannot = (⟨C_Chain, C_Ring, C_Through, C_Can, C_Stopped, C_Cannot, C_Always⟩ : Cc).of y), rfl, ?_⟩
    by_cases e : C_Cannot = (⟨C_Chain, C_Ring, C_Through, C_Can, C_Stopped, C_Cannot, C_Always⟩ : Cc).of y
    · rw [decide_eq_true e]
      refine iteT ?_
      obtain ⟨k', ss', rfl⟩ : ∃ k' ss', y = Ob.cant k' ss' := is_cant FX.nd e.symm
      obtain ⟨dy', t', eb', kb⟩ := hb
      obtain ⟨d1, u1, e1, s1⟩ := id ka
      obtain ⟨d2, u2, e2, s2⟩ := id kb
      refine ⟨_, rfl, a, C_Cannot, dx, _, _, rfl, ea, K_Cannot.cl, K_Cannot.no "reason" (by simp), rfl, _, rfl, b, C_Cannot, dy', _, _, rfl, eb', K_Cannot.cl, K_Cannot.no "reason" (by simp), rfl, t, t', _, d1, _, _, d2, _, rfl, rfl, rsn_mem k ss, rsn_mem k' ss', e1, e2, ?_, ?_⟩
      · refine ⟨t, t', _, _, rfl, rfl, ob_rsn ka, ob_rsn kb, rsn_ok ox, rsn_ok oy, rsn_eo, fun H' s => ⟨_, rfl, ?_⟩⟩
        have z := q H' s
        have e3 : decide (Ob.cant k ss = Ob.cant k' ss') = decide (Ob.rsn k ss = Ob.rsn k' ss') := by rw [rsn_inj]; simp
        rwa [e3] at z
      · refine ⟨t', t, _, _, rfl, rfl, ob_rsn kb, ob_rsn ka, rsn_ok oy, rsn_ok ox, rsn_eo, fun H' s => ⟨_, rfl, ?_⟩⟩
        have z := q H' s
        have e3 : decide (Ob.cant k ss = Ob.cant k' ss') = decide (Ob.rsn k' ss' = Ob.rsn k ss) := by
          rw [rsn_inj, Bool.eq_iff_iff]
          simp only [decide_eq_true_eq, Ob.cant.injEq]
          exact ⟨fun h => ⟨h.1.symm, h.2.symm⟩, fun h => ⟨h.1.symm, h.2.symm⟩⟩
        rwa [e3] at z
    · rw [decide_eq_false e]
      refine iteF ?_
      have z := q H (Same.refl _)
      rwa [not_of (c := (⟨C_Chain, C_Ring, C_Through, C_Can, C_Stopped, C_Cannot, C_Always⟩ : Cc)) (x := Ob.cant k ss) (y := y) e] at z
end
/-- two reasons of the kind k that are equal -/
def Req (c : Cc) (k : Bool) (a b : Addr) (H : Hp) : Prop := ∃ ss, RsAt c H a k ss ∧ RsAt c H b k ss ∧ Ok3 ss
theorem req_mon {c : Cc} {k : Bool} : ∀ a b H H', L2.Ext H H' → Req c k a b H → Req c k a b H' := fun a b H H' e ⟨ss, h1, h2, o⟩ => ⟨ss, rs_same e h1, rs_same e h2, o⟩
theorem eqG_rs {X : Cx} {n : Nat} {c : Cc} {k : Bool} (O : Om X CX0 n (c.of (.rsn k [])) "__eq__" ["self", "other"] (spEqO c (c.of (.rsn k [])))) : EqG X n (DIns (c.of (.rsn k [])) (Req c k)) := by
  obtain ⟨f, fd, hs, hf, hb, F⟩ := O.ex
  refine eqG_ins (E := E0) (F.imp fun vs H Q E h => ?_) hs hf hb pass0
  obtain ⟨a, b, rfl, ⟨ss, h1, h2, o⟩, q⟩ := h
  exact ⟨a, b, .rsn k ss, .rsn k ss, rfl, by cases k <;> rfl, ob_rsn h1, ob_rsn h2, rsn_ok o, rsn_ok o, rsn_eo, fun H' s => by rw [decide_eq_true rfl]; exact q H' s⟩
def DItem (c : Cc) : Eqv := fun x y H => DFlat x y H ∨ (DIns c.chain (Req c false) x y H ∨ DIns c.ring (Req c true) x y H)
theorem mon_item (c : Cc) : Mon (DItem c) := mon_flat.or ((mon_ins req_mon).or (mon_ins req_mon))
theorem prs_f2 {K : PySem.W.Frag} {c : Cc} {H : Hp} {D : Eqv} {R : Addr → (PySem.Str × Bool × List St3) → Prop} (h : ∀ p p' r, R p r → R p' r → (∃ r', r' = r) → D (.ref p) (.ref p') H) : ∀ {as as' : List Addr} {rs : List (PySem.Str × Bool × List St3)}, F2 R as rs → F2 R as' rs → Prs D (as.map V.ref) (as'.map V.ref) H
  | _, _, _, .nil, .nil => Prs.nil
  | _, _, _, .cons k f, .cons k' f' => Prs.cons (h _ _ _ k k' ⟨_, rfl⟩) (prs_f2 (K := K) (c := c) h f f')
theorem op_alw {X : Cx} {n : Nat} {c : Cc} (O1 : Om X CX0 n c.chain "__eq__" ["self", "other"] (spEqO c c.chain)) (O2 : Om X CX0 n c.ring "__eq__" ["self", "other"] (spEqO c c.ring)) (hr : Room (n + 2) X.A) :
    OpR X (compareOp .Eq) (fun x y H Q => ∃ t t' rs, x = V.ref t ∧ y = V.ref t' ∧ PrsAt c H t rs ∧ PrsAt c H t' rs ∧ (∀ r ∈ rs, OkS r.1 ∧ Ok3 r.2.2) ∧ ∀ H', Same H H' → Q (.bl true) H') := by
  have e1 : EqG X n (DItem c) := (eqG_flat.mono (Nat.zero_le _)).or ((eqG_rs (k := false) O1).or (eqG_rs (k := true) O2))
  refine OpR.to (op_eqG (rcG_tup (mon_tup (mon_item c)) (eqG_tup (mon_item c) e1)) hr) fun x y H Q ⟨t, t', rs, ex, ey, ⟨as, h1, f1⟩, ⟨as', h2, f2⟩, ok, q⟩ => ⟨⟨t, t', _, _, ex, ey, SqT.of h1, SqT.of h2, ?_⟩, q⟩
  have key : ∀ {as as' : List Addr} {rs : List (PySem.Str × Bool × List St3)}, (∀ r ∈ rs, OkS r.1 ∧ Ok3 r.2.2) → F2 (PrAt c H) as rs → F2 (PrAt c H) as' rs → Prs (DTup X.K (DItem c)) (as.map V.ref) (as'.map V.ref) H := by
    intro as as' rs
    induction rs generalizing as as' with
    | nil =>
      intro _ f f'
      cases f
      cases f'
      exact Prs.nil
    | cons r rs ih =>
      intro ok f f'
      cases f with
      | cons k f =>
        cases f' with
        | cons k' f' =>
          refine Prs.cons ?_ (ih (fun r hr => ok r (List.mem_cons_of_mem _ hr)) f f')
          obtain ⟨b, e, z⟩ := k
          obtain ⟨b', e', z'⟩ := k'
          obtain ⟨os, o3⟩ := ok r (List.mem_cons_self ..)
          refine ⟨_, _, _, _, rfl, rfl, SqT.of e, SqT.of e', Prs.cons (.inl ⟨rfl, rfl, by simp [eqV]⟩) (Prs.cons (.inr ?_) Prs.nil)⟩
          obtain ⟨nm, k, ss⟩ := r
          obtain ⟨d1, u1, i1, s1⟩ := id z
          obtain ⟨d2, u2, i2, s2⟩ := id z'
          cases k with
          | false => exact .inl ⟨b, b', d1, d2, _, _, rfl, rfl, i1, i2, ss, z, z', o3⟩
          | true => exact .inr ⟨b, b', d1, d2, _, _, rfl, rfl, i1, i2, ss, z, z', o3⟩
  exact key ok f1 f2
section
variable {P : Program} {w : World} {K : PySem.W.Frag} {mg : Str → Option Value} {base : Heap}
abbrev s_Always___eq : Stmt := clsAt (topS 12) 1
theorem sc_Always___eq : FnScope ["self", "other"] ["self", "other"] (defScope s_Always___eq) := ⟨rfl, rfl, rfl, by decide +kernel, rfl, by decide +kernel, by decide +kernel⟩
theorem ok_Always___eq {f : Addr} {fd : FuncData} (F : Fun K "__eq__" "Always.__eq__" s_Always___eq f fd) {C_Always : Addr} {C_Can : Addr} {C_Cannot : Addr} {C_Chain : Addr} {C_Ring : Addr} {C_Stopped : Addr} {C_Through : Addr} (T : Txt mg) (K_Always : Kl K mg "Always" C_Always ["reasons"]) (D_Chain___eq : Mn P w K mg base CX0 1 C_Chain "__eq__" ["self", "other"] (spEqO (⟨C_Chain, C_Ring, C_Through, C_Can, C_Stopped, C_Cannot, C_Always⟩ : Cc) C_Chain)) (D_Ring___eq : Mn P w K mg base CX0 1 C_Ring "__eq__" ["self", "other"] (spEqO (⟨C_Chain, C_Ring, C_Through, C_Can, C_Stopped, C_Cannot, C_Always⟩ : Cc) C_Ring)) (FX : Fx K (⟨C_Chain, C_Ring, C_Through, C_Can, C_Stopped, C_Cannot, C_Always⟩ : Cc)) : FnOk P w K mg base CX0 4 f fd ["self", "other"] (spEqO (⟨C_Chain, C_Ring, C_Through, C_Can, C_Stopped, C_Cannot, C_Always⟩ : Cc) C_Always) := by
  refine F.ok sc_Always___eq (fun vs H Q E h => ?_) (fun cdv A outer s H vs Q E hr h => ?_)
  · obtain ⟨a, b, x, y, rfl, _⟩ := h
    rfl
  · obtain ⟨a, b, x, y, rfl, ex, ha, hb, ox, oy, eo, q⟩ := h
    refine ⟨_, pss_one (ps_ret (pe_and (pe_cmpR op_is_cls (pe_callTy cr_type (by rfl) T.type (by decide +kernel) (pa_cons (pv 0) pa_nil)) (pe_callTy cr_type (by rfl) T.type (by decide +kernel) (pa_cons (pv 1) pa_nil)) (nomark _)) (pe_one (pe_cmpR (op_alw (n := 1) (c := (⟨C_Chain, C_Ring, C_Through, C_Can, C_Stopped, C_Cannot, C_Always⟩ : Cc)) D_Chain___eq.om D_Ring___eq.om (hr.mono (by decide))) (pe_fld (pv 0) rfl) (pe_fld (pv 1) rfl) (nomark _))))), ?_⟩
    obtain ⟨rs, rfl⟩ : ∃ rs, x = Ob.alw rs := is_alw FX.nd ex
    obtain ⟨dy, fy, eb, _⟩ := ob_ins hb
    obtain ⟨dx, t, ea, ka⟩ := id ha
    have isT : C_Always = (⟨C_Chain, C_Ring, C_Through, C_Can, C_Stopped, C_Cannot, C_Always⟩ : Cc).of y ∨ (PySem.W.makesIn K C_Always = true ∧ PySem.W.makesIn K ((⟨C_Chain, C_Ring, C_Through, C_Can, C_Stopped, C_Cannot, C_Always⟩ : Cc).of y) = true) := .inr ⟨FX.mks _ (by simp [Cc.all]), FX.mks _ ((⟨C_Chain, C_Ring, C_Through, C_Can, C_Stopped, C_Cannot, C_Always⟩ : Cc).mem y)⟩
    refine ⟨_, rfl, a, C_Always, dx, _, rfl, ea, _, rfl, b, (⟨C_Chain, C_Ring, C_Through, C_Can, C_Stopped, C_Cannot, C_Always⟩ : Cc).of y, dy, fy, rfl, eb, C_Always, (⟨C_Chain, C_Ring, C_Through, C_Can, C_Stopped, C_Cannot, C_Always⟩ : Cc).of y, rfl, rfl, isT, decide (C_Always = (⟨C_Chain, C_Ring, C_Through, C_Can, C_Stopped, C_Cannot, C_Always⟩ : Cc).of y), rfl, ?_⟩
    by_cases e : C_Always = (⟨C_Chain, C_Ring, C_Through, C_Can, C_Stopped, C_Cannot, C_Always⟩ : Cc).of y
    · rw [decide_eq_true e]
      refine iteT ?_
      obtain ⟨rs', rfl⟩ : ∃ rs', y = Ob.alw rs' := is_alw FX.nd e.symm
      obtain ⟨dy', t', eb', kb⟩ := hb
      have e3 : rs = rs' := eo
      subst e3
      refine ⟨_, rfl, a, C_Always, dx, _, _, rfl, ea, K_Always.cl, K_Always.no "reasons" (by simp), rfl, _, rfl, b, C_Always, dy', _, _, rfl, eb', K_Always.cl, K_Always.no "reasons" (by simp), rfl, t, t', rs, rfl, rfl, ka, kb, ox.1, fun H' s => ?_⟩
      have z := q H' s
      rwa [decide_eq_true rfl] at z
    · rw [decide_eq_false e]
      refine iteF ?_
      have z := q H (Same.refl _)
      rwa [not_of (c := (⟨C_Chain, C_Ring, C_Through, C_Can, C_Stopped, C_Cannot, C_Always⟩ : Cc)) (x := Ob.alw rs) (y := y) e] at z
abbrev s_Can___bool : Stmt := clsAt (topS 9) 2
theorem sc_Can___bool : FnScope ["self"] ["self"] (defScope s_Can___bool) := ⟨rfl, rfl, rfl, by decide +kernel, rfl, by decide +kernel, by decide +kernel⟩
theorem ok_Can___bool {f : Addr} {fd : FuncData} (F : Fun K "__bool__" "Can.__bool__" s_Can___bool f fd) {C_Always : Addr} {C_Can : Addr} {C_Cannot : Addr} {C_Chain : Addr} {C_Ring : Addr} {C_Stopped : Addr} {C_Through : Addr} (T : Txt mg) (K_Can : Kl K mg "Can" C_Can ["future"]) (FX : Fx K (⟨C_Chain, C_Ring, C_Through, C_Can, C_Stopped, C_Cannot, C_Always⟩ : Cc)) : FnOk P w K mg base CX0 1 f fd ["self"] (spBool (⟨C_Chain, C_Ring, C_Through, C_Can, C_Stopped, C_Cannot, C_Always⟩ : Cc) C_Can) := by
  refine F.ok sc_Can___bool (fun vs H Q E h => ?_) (fun cdv A outer s H vs Q E hr h => ?_)
  · obtain ⟨a, x, rfl, _⟩ := h
    rfl
  · obtain ⟨a, x, rfl, ex, ha, q⟩ := h
    refine ⟨_, pss_one (ps_ret pe_bl), ?_⟩
    obtain ⟨f, rfl⟩ : ∃ f, x = Ob.can f := is_can FX.nd ex
    exact q
abbrev s_Stopped___bool : Stmt := clsAt (topS 10) 2
theorem sc_Stopped___bool : FnScope ["self"] ["self"] (defScope s_Stopped___bool) := ⟨rfl, rfl, rfl, by decide +kernel, rfl, by decide +kernel, by decide +kernel⟩
theorem ok_Stopped___bool {f : Addr} {fd : FuncData} (F : Fun K "__bool__" "Stopped.__bool__" s_Stopped___bool f fd) {C_Always : Addr} {C_Can : Addr} {C_Cannot : Addr} {C_Chain : Addr} {C_Ring : Addr} {C_Stopped : Addr} {C_Through : Addr} (T : Txt mg) (K_Stopped : Kl K mg "Stopped" C_Stopped ["future", "name"]) (FX : Fx K (⟨C_Chain, C_Ring, C_Through, C_Can, C_Stopped, C_Cannot, C_Always⟩ : Cc)) : FnOk P w K mg base CX0 1 f fd ["self"] (spBool (⟨C_Chain, C_Ring, C_Through, C_Can, C_Stopped, C_Cannot, C_Always⟩ : Cc) C_Stopped) := by
  refine F.ok sc_Stopped___bool (fun vs H Q E h => ?_) (fun cdv A outer s H vs Q E hr h => ?_)
  · obtain ⟨a, x, rfl, _⟩ := h
    rfl
  · obtain ⟨a, x, rfl, ex, ha, q⟩ := h
    refine ⟨_, pss_one (ps_ret pe_bl), ?_⟩
    obtain ⟨f, n, rfl⟩ : ∃ f n, x = Ob.stp f n := is_stp FX.nd ex
    exact q
abbrev s_Cannot___bool : Stmt := clsAt (topS 11) 2
theorem sc_Cannot___bool : FnScope ["self"] ["self"] (defScope s_Cannot___bool) := ⟨rfl, rfl, rfl, by decide +kernel, rfl, by decide +kernel, by decide +kernel⟩
theorem ok_Cannot___bool {f : Addr} {fd : FuncData} (F : Fun K "__bool__" "Cannot.__bool__" s_Cannot___bool f fd) {C_Always : Addr} {C_Can : Addr} {C_Cannot : Addr} {C_Chain : Addr} {C_Ring : Addr} {C_Stopped : Addr} {C_Through : Addr} (T : Txt mg) (K_Cannot : Kl K mg "Cannot" C_Cannot ["reason"]) (FX : Fx K (⟨C_Chain, C_Ring, C_Through, C_Can, C_Stopped, C_Cannot, C_Always⟩ : Cc)) : FnOk P w K mg base CX0 1 f fd ["self"] (spBool (⟨C_Chain, C_Ring, C_Through, C_Can, C_Stopped, C_Cannot, C_Always⟩ : Cc) C_Cannot) := by
  refine F.ok sc_Cannot___bool (fun vs H Q E h => ?_) (fun cdv A outer s H vs Q E hr h => ?_)
  · obtain ⟨a, x, rfl, _⟩ := h
    rfl
  · obtain ⟨a, x, rfl, ex, ha, q⟩ := h
    refine ⟨_, pss_one (ps_ret pe_bl), ?_⟩
    obtain ⟨k, ss, rfl⟩ : ∃ k ss, x = Ob.cant k ss := is_cant FX.nd ex
    exact q
abbrev s_Always___bool : Stmt := clsAt (topS 12) 2
theorem sc_Always___bool : FnScope ["self"] ["self"] (defScope s_Always___bool) := ⟨rfl, rfl, rfl, by decide +kernel, rfl, by decide +kernel, by decide +kernel⟩
theorem ok_Always___bool {f : Addr} {fd : FuncData} (F : Fun K "__bool__" "Always.__bool__" s_Always___bool f fd) {C_Always : Addr} {C_Can : Addr} {C_Cannot : Addr} {C_Chain : Addr} {C_Ring : Addr} {C_Stopped : Addr} {C_Through : Addr} (T : Txt mg) (K_Always : Kl K mg "Always" C_Always ["reasons"]) (FX : Fx K (⟨C_Chain, C_Ring, C_Through, C_Can, C_Stopped, C_Cannot, C_Always⟩ : Cc)) : FnOk P w K mg base CX0 1 f fd ["self"] (spBool (⟨C_Chain, C_Ring, C_Through, C_Can, C_Stopped, C_Cannot, C_Always⟩ : Cc) C_Always) := by
  refine F.ok sc_Always___bool (fun vs H Q E h => ?_) (fun cdv A outer s H vs Q E hr h => ?_)
  · obtain ⟨a, x, rfl, _⟩ := h
    rfl
  · obtain ⟨a, x, rfl, ex, ha, q⟩ := h
    refine ⟨_, pss_one (ps_ret pe_bl), ?_⟩
    obtain ⟨rs, rfl⟩ : ∃ rs, x = Ob.alw rs := is_alw FX.nd ex
    exact q
end
end K22

set_option Elab.async false
set_option linter.all false
set_option maxRecDepth 100000
set_option maxHeartbeats 4000000
namespace K22
open PySem Nb
open L2 hiding del del_ne del_same
theorem cl3 {K : PySem.W.Frag} {c : Cc} (F : Fx K c) : ∀ C ∈ [c.chain, c.ring, c.thr], Cls K C := fun C m => F.cl C (by
  have sub : ∀ x ∈ [c.chain, c.ring, c.thr], x ∈ c.all := by simp [Cc.all]
  exact sub C m)
theorem lst_app {xs ys : List PySem.Str} {H : Hp} {l : Addr} (e : H l = some (.lst (xs.map V.str ++ ys.map V.str))) : H l = some (.lst ((xs ++ ys).map V.str)) := by
  rw [List.map_append]
  exact e
def alwL (rs : List (PySem.Str × Bool × List St3)) : List PySem.Str := "always" :: (rs.map fun r => named "stopper " r.1 :: rsnL r.2.1 r.2.2).flatten
theorem alwL_snoc (rs : List (PySem.Str × Bool × List St3)) (r : PySem.Str × Bool × List St3) : alwL (rs ++ (some r).toList) = alwL rs ++ (named "stopper " r.1 :: rsnL r.2.1 r.2.2) := by
  simp [alwL]
theorem rsn_lines {k : Bool} {ss : List St3} : linesOf (.rsn k ss) = rsnL k ss := by cases k <;> rfl
theorem rsn_len {k : Bool} {ss : List St3} (h : Ok3 ss) : (rsnL k ss).length ≤ 11 := by
  have := h.2
  cases k <;> simp [rsnL] <;> omega
section
variable {P : Program} {w : World} {K : PySem.W.Frag} {mg : Str → Option Value} {base : Heap}
abbrev s_Chain_show : Stmt := clsAt (topS 5) 4
theorem sc_Chain_show : FnScope ["self"] ["self"] (defScope s_Chain_show) := ⟨rfl, rfl, rfl, by decide +kernel, rfl, by decide +kernel, by decide +kernel⟩
theorem ok_Chain_show {f : Addr} {fd : FuncData} (F : Fun K "show" "Chain.show" s_Chain_show f fd) {C_Always : Addr} {C_Can : Addr} {C_Cannot : Addr} {C_Chain : Addr} {C_Ring : Addr} {C_Stopped : Addr} {C_Through : Addr} (T : Txt mg) (K_Chain : Kl K mg "Chain" C_Chain ["steps"]) (D_step_lines : Dn P w K mg base CX0 1 "_step_lines" ["chain"] (spStepL (⟨C_Chain, C_Ring, C_Through, C_Can, C_Stopped, C_Cannot, C_Always⟩ : Cc))) (FX : Fx K (⟨C_Chain, C_Ring, C_Through, C_Can, C_Stopped, C_Cannot, C_Always⟩ : Cc)) : FnOk P w K mg base CX0 2 f fd ["self"] (spShow (⟨C_Chain, C_Ring, C_Through, C_Can, C_Stopped, C_Cannot, C_Always⟩ : Cc) C_Chain) := by
  refine F.ok sc_Chain_show (fun vs H Q E h => ?_) (fun cdv A outer s H vs Q E hr h => ?_)
  · obtain ⟨a, x, rfl, _⟩ := h
    rfl
  · obtain ⟨a, x, rfl, ex, ha, ox, q⟩ := h
    refine ⟨_, pss_one (ps_ret (pe_D D_step_lines (hr.mono (by decide)) (by rfl) pass0 (pa_cons (pv 0) pa_nil))), ?_⟩
    obtain ⟨ss, rfl⟩ : ∃ ss, x = Ob.chain ss := is_chain FX.nd ex
    obtain ⟨dx, t, ea, ka⟩ := id ha
    refine ⟨_, rfl, a, C_Chain, dx, t, _, ss, rfl, by simp, ea, rfl, ka, ox, fun H1 l1 s1 n1 e1 => ?_⟩
    exact q H1 l1 s1 n1 e1
abbrev s_Ring_show : Stmt := clsAt (topS 7) 4
theorem sc_Ring_show : FnScope ["self"] ["self"] (defScope s_Ring_show) := ⟨rfl, rfl, rfl, by decide +kernel, rfl, by decide +kernel, by decide +kernel⟩
theorem ok_Ring_show {f : Addr} {fd : FuncData} (F : Fun K "show" "Ring.show" s_Ring_show f fd) {C_Always : Addr} {C_Can : Addr} {C_Cannot : Addr} {C_Chain : Addr} {C_Ring : Addr} {C_Stopped : Addr} {C_Through : Addr} (T : Txt mg) (K_Ring : Kl K mg "Ring" C_Ring ["steps"]) (D_step_lines : Dn P w K mg base CX0 1 "_step_lines" ["chain"] (spStepL (⟨C_Chain, C_Ring, C_Through, C_Can, C_Stopped, C_Cannot, C_Always⟩ : Cc))) (FX : Fx K (⟨C_Chain, C_Ring, C_Through, C_Can, C_Stopped, C_Cannot, C_Always⟩ : Cc)) : FnOk P w K mg base CX0 2 f fd ["self"] (spShow (⟨C_Chain, C_Ring, C_Through, C_Can, C_Stopped, C_Cannot, C_Always⟩ : Cc) C_Ring) := by
  refine F.ok sc_Ring_show (fun vs H Q E h => ?_) (fun cdv A outer s H vs Q E hr h => ?_)
  · obtain ⟨a, x, rfl, _⟩ := h
    rfl
  · obtain ⟨a, x, rfl, ex, ha, ox, q⟩ := h
    refine ⟨_, pss_one (ps_ret (pe_lstS (StX.pa_star (pe_D D_step_lines (hr.mono (by decide)) (by rfl) pass0 (pa_cons (pv 0) pa_nil)) (pa_cons pe_str pa_nil)))), ?_⟩
    obtain ⟨ss, rfl⟩ : ∃ ss, x = Ob.ring ss := is_ring FX.nd ex
    obtain ⟨dx, t, ea, ka⟩ := id ha
    have l10 := ox.2
    refine ⟨_, rfl, a, C_Ring, dx, t, _, ss, rfl, by simp, ea, rfl, ka, ox, fun H1 l1 s1 n1 e1 => ?_⟩
    refine ⟨l1, _, rfl, .inr (SqL.of e1), ?_, fun H2 l2 s2 n2 e2 => q H2 l2 (s1.trans s2) (s1.free n2) (lst_app (ys := [("ring" : PySem.Str)]) e2)⟩
    rw [List.length_append, List.length_map, List.length_map]
    show ss.length + 1 ≤ 100000
    omega
abbrev s_Through_show : Stmt := clsAt (topS 6) 4
theorem sc_Through_show : FnScope ["self"] ["self"] (defScope s_Through_show) := ⟨rfl, rfl, rfl, by decide +kernel, rfl, by decide +kernel, by decide +kernel⟩
theorem ok_Through_show {f : Addr} {fd : FuncData} (F : Fun K "show" "Through.show" s_Through_show f fd) {C_Always : Addr} {C_Can : Addr} {C_Cannot : Addr} {C_Chain : Addr} {C_Ring : Addr} {C_Stopped : Addr} {C_Through : Addr} (T : Txt mg) (K_Through : Kl K mg "Through" C_Through ["steps", "name"]) (D_step_lines : Dn P w K mg base CX0 1 "_step_lines" ["chain"] (spStepL (⟨C_Chain, C_Ring, C_Through, C_Can, C_Stopped, C_Cannot, C_Always⟩ : Cc))) (FX : Fx K (⟨C_Chain, C_Ring, C_Through, C_Can, C_Stopped, C_Cannot, C_Always⟩ : Cc)) : FnOk P w K mg base CX0 2 f fd ["self"] (spShow (⟨C_Chain, C_Ring, C_Through, C_Can, C_Stopped, C_Cannot, C_Always⟩ : Cc) C_Through) := by
  refine F.ok sc_Through_show (fun vs H Q E h => ?_) (fun cdv A outer s H vs Q E hr h => ?_)
  · obtain ⟨a, x, rfl, _⟩ := h
    rfl
  · obtain ⟨a, x, rfl, ex, ha, ox, q⟩ := h
    refine ⟨_, pss_one (ps_ret (pe_lstS (StX.pa_star (pe_D D_step_lines (hr.mono (by decide)) (by rfl) pass0 (pa_cons (pv 0) pa_nil)) (pa_cons (pe_joinedN (PJ.cons pe_str (PJ.cons (pe_fmt (pe_fld (pv 0) rfl)) PJ.nil))) pa_nil)))), ?_⟩
    obtain ⟨ss, n, rfl⟩ : ∃ ss n, x = Ob.thr ss n := is_thr FX.nd ex
    obtain ⟨dx, t, ea, ka⟩ := id ha
    have l10 := ox.1.2
    refine ⟨_, rfl, a, C_Through, dx, t, _, ss, rfl, by simp, ea, rfl, ka, ox.1, fun H1 l1 s1 n1 e1 => ?_⟩
    refine ⟨l1, _, rfl, .inr (SqL.of e1), "passes ", rfl, by decide, _, rfl, a, C_Through, dx, _, _, rfl, s1 _ _ ea, K_Through.cl, K_Through.no "name" (by simp), rfl, .inl ⟨n, rfl, l100 ox.2.2 (by decide), n, rfl, l100 (ap_len (ap_len (x := PySem.Str.empty) (a := 0) (y := "passes ") (b := 10) (by decide) (by decide)) ox.2.2) (by decide), ?_, fun H2 l2 s2 n2 e2 => q H2 l2 (s1.trans s2) (s1.free n2) (lst_app (ys := [named "passes " n]) e2)⟩⟩
    rw [List.length_append, List.length_map, List.length_map]
    show ss.length + 1 ≤ 100000
    omega
abbrev s_Can_show : Stmt := clsAt (topS 9) 3
theorem sc_Can_show : FnScope ["self"] ["self"] (defScope s_Can_show) := ⟨rfl, rfl, rfl, by decide +kernel, rfl, by decide +kernel, by decide +kernel⟩
theorem ok_Can_show {f : Addr} {fd : FuncData} (F : Fun K "show" "Can.show" s_Can_show f fd) {C_Always : Addr} {C_Can : Addr} {C_Cannot : Addr} {C_Chain : Addr} {C_Ring : Addr} {C_Stopped : Addr} {C_Through : Addr} (T : Txt mg) (K_Can : Kl K mg "Can" C_Can ["future"]) (D_future_line : Dn P w K mg base CX0 1 "_future_line" ["answer"] (spFutL (⟨C_Chain, C_Ring, C_Through, C_Can, C_Stopped, C_Cannot, C_Always⟩ : Cc))) (FX : Fx K (⟨C_Chain, C_Ring, C_Through, C_Can, C_Stopped, C_Cannot, C_Always⟩ : Cc)) : FnOk P w K mg base CX0 2 f fd ["self"] (spShow (⟨C_Chain, C_Ring, C_Through, C_Can, C_Stopped, C_Cannot, C_Always⟩ : Cc) C_Can) := by
  refine F.ok sc_Can_show (fun vs H Q E h => ?_) (fun cdv A outer s H vs Q E hr h => ?_)
  · obtain ⟨a, x, rfl, _⟩ := h
    rfl
  · obtain ⟨a, x, rfl, ex, ha, ox, q⟩ := h
    refine ⟨_, pss_one (ps_ret (pe_lstS (pa_cons (pe_D D_future_line (hr.mono (by decide)) (by rfl) pass0 (pa_cons (pv 0) pa_nil)) pa_nil))), ?_⟩
    obtain ⟨f, rfl⟩ : ∃ f, x = Ob.can f := is_can FX.nd ex
    obtain ⟨dx, t, ea, ka⟩ := id ha
    refine ⟨_, rfl, a, C_Can, dx, t, _, f, rfl, by simp, ea, rfl, ka, ox, fun H1 s1 => ⟨(by show 1 ≤ 100000; decide), fun H2 l2 s2 n2 e2 => q H2 l2 (s1.trans s2) (s1.free n2) e2⟩⟩
abbrev s_Stopped_show : Stmt := clsAt (topS 10) 3
theorem sc_Stopped_show : FnScope ["self"] ["self"] (defScope s_Stopped_show) := ⟨rfl, rfl, rfl, by decide +kernel, rfl, by decide +kernel, by decide +kernel⟩
theorem ok_Stopped_show {f : Addr} {fd : FuncData} (F : Fun K "show" "Stopped.show" s_Stopped_show f fd) {C_Always : Addr} {C_Can : Addr} {C_Cannot : Addr} {C_Chain : Addr} {C_Ring : Addr} {C_Stopped : Addr} {C_Through : Addr} (T : Txt mg) (K_Stopped : Kl K mg "Stopped" C_Stopped ["future", "name"]) (D_future_line : Dn P w K mg base CX0 1 "_future_line" ["answer"] (spFutL (⟨C_Chain, C_Ring, C_Through, C_Can, C_Stopped, C_Cannot, C_Always⟩ : Cc))) (FX : Fx K (⟨C_Chain, C_Ring, C_Through, C_Can, C_Stopped, C_Cannot, C_Always⟩ : Cc)) : FnOk P w K mg base CX0 2 f fd ["self"] (spShow (⟨C_Chain, C_Ring, C_Through, C_Can, C_Stopped, C_Cannot, C_Always⟩ : Cc) C_Stopped) := by
  refine F.ok sc_Stopped_show (fun vs H Q E h => ?_) (fun cdv A outer s H vs Q E hr h => ?_)
  · obtain ⟨a, x, rfl, _⟩ := h
    rfl
  · obtain ⟨a, x, rfl, ex, ha, ox, q⟩ := h
    refine ⟨_, pss_one (ps_ret (pe_lstS (pa_cons (pe_D D_future_line (hr.mono (by decide)) (by rfl) pass0 (pa_cons (pv 0) pa_nil)) (pa_cons (pe_joinedN (PJ.cons pe_str (PJ.cons (pe_fmt (pe_fld (pv 0) rfl)) PJ.nil))) pa_nil)))), ?_⟩
    obtain ⟨f, n, rfl⟩ : ∃ f n, x = Ob.stp f n := is_stp FX.nd ex
    obtain ⟨dx, t, ea, ka⟩ := id ha
    refine ⟨_, rfl, a, C_Stopped, dx, t, _, f, rfl, by simp, ea, rfl, ka, ox.1, fun H1 s1 => ⟨"stopper ", rfl, by decide, _, rfl, a, C_Stopped, dx, _, _, rfl, s1 _ _ ea, K_Stopped.cl, K_Stopped.no "name" (by simp), rfl, .inl ⟨n, rfl, l100 ox.2.2 (by decide), n, rfl, l100 (ap_len (ap_len (x := PySem.Str.empty) (a := 0) (y := "stopper ") (b := 10) (by decide) (by decide)) ox.2.2) (by decide), (by show 2 ≤ 100000; decide), fun H2 l2 s2 n2 e2 => q H2 l2 (s1.trans s2) (s1.free n2) e2⟩⟩⟩
abbrev s_Cannot_show : Stmt := clsAt (topS 11) 3
theorem sc_Cannot_show : FnScope ["self"] ["self"] (defScope s_Cannot_show) := ⟨rfl, rfl, rfl, by decide +kernel, rfl, by decide +kernel, by decide +kernel⟩
theorem ok_Cannot_show {f : Addr} {fd : FuncData} (F : Fun K "show" "Cannot.show" s_Cannot_show f fd) {C_Always : Addr} {C_Can : Addr} {C_Cannot : Addr} {C_Chain : Addr} {C_Ring : Addr} {C_Stopped : Addr} {C_Through : Addr} (T : Txt mg) (K_Cannot : Kl K mg "Cannot" C_Cannot ["reason"]) (D_Chain_show : Mn P w K mg base CX0 2 C_Chain "show" ["self"] (spShow (⟨C_Chain, C_Ring, C_Through, C_Can, C_Stopped, C_Cannot, C_Always⟩ : Cc) C_Chain)) (D_Ring_show : Mn P w K mg base CX0 2 C_Ring "show" ["self"] (spShow (⟨C_Chain, C_Ring, C_Through, C_Can, C_Stopped, C_Cannot, C_Always⟩ : Cc) C_Ring)) (D_Through_show : Mn P w K mg base CX0 2 C_Through "show" ["self"] (spShow (⟨C_Chain, C_Ring, C_Through, C_Can, C_Stopped, C_Cannot, C_Always⟩ : Cc) C_Through)) (FX : Fx K (⟨C_Chain, C_Ring, C_Through, C_Can, C_Stopped, C_Cannot, C_Always⟩ : Cc)) : FnOk P w K mg base CX0 3 f fd ["self"] (spShow (⟨C_Chain, C_Ring, C_Through, C_Can, C_Stopped, C_Cannot, C_Always⟩ : Cc) C_Cannot) := by
  refine F.ok sc_Cannot_show (fun vs H Q E h => ?_) (fun cdv A outer s H vs Q E hr h => ?_)
  · obtain ⟨a, x, rfl, _⟩ := h
    rfl
  · obtain ⟨a, x, rfl, ex, ha, ox, q⟩ := h
    refine ⟨_, pss_one (ps_ret (pe_lstS (pa_cons pe_str (StX.pa_star (pe_MP (n := 2) (sp := spShow (⟨C_Chain, C_Ring, C_Through, C_Can, C_Stopped, C_Cannot, C_Always⟩ : Cc)) (mem3 (D_Chain_show.up (by decide)) (D_Ring_show.up (by decide)) (D_Through_show.up (by decide))) (cl3 FX) (pe_fld (pv 0) rfl) (hr.mono (by decide)) pass0) pa_nil)))), ?_⟩
    obtain ⟨k, ss, rfl⟩ : ∃ k ss, x = Ob.cant k ss := is_cant FX.nd ex
    obtain ⟨dx, t, ea, ka⟩ := id ha
    obtain ⟨d1, u1, e1, k1⟩ := id ka
    refine ⟨_, rfl, a, C_Cannot, dx, _, _, rfl, ea, K_Cannot.cl, K_Cannot.no "reason" (by simp), rfl, t, _, d1, _, rfl, rsn_mem k ss, e1, rfl, t, _, rfl, rfl, ob_rsn ka, rsn_ok ox, fun H1 l1 s1 n1 el => ?_⟩
    rw [rsn_lines] at el
    have := rsn_len (k := k) ox
    refine ⟨l1, _, rfl, .inr (SqL.of el), ?_, fun H2 l2 s2 n2 e2 => q H2 l2 (s1.trans s2) (s1.free n2) ?_⟩
    · rw [List.append_nil, List.length_cons, List.length_map]
      omega
    · rw [e2, List.append_nil]
      rfl
abbrev s_Always_show : Stmt := clsAt (topS 12) 3
theorem sc_Always_show : FnScope ["self", "lines", "name", "reason"] ["self"] (defScope s_Always_show) := ⟨rfl, rfl, rfl, by decide +kernel, rfl, by decide +kernel, by decide +kernel⟩
theorem ok_Always_show {f : Addr} {fd : FuncData} (F : Fun K "show" "Always.show" s_Always_show f fd) {C_Always : Addr} {C_Can : Addr} {C_Cannot : Addr} {C_Chain : Addr} {C_Ring : Addr} {C_Stopped : Addr} {C_Through : Addr} (T : Txt mg) (K_Always : Kl K mg "Always" C_Always ["reasons"]) (D_Chain_show : Mn P w K mg base CX0 2 C_Chain "show" ["self"] (spShow (⟨C_Chain, C_Ring, C_Through, C_Can, C_Stopped, C_Cannot, C_Always⟩ : Cc) C_Chain)) (D_Ring_show : Mn P w K mg base CX0 2 C_Ring "show" ["self"] (spShow (⟨C_Chain, C_Ring, C_Through, C_Can, C_Stopped, C_Cannot, C_Always⟩ : Cc) C_Ring)) (D_Through_show : Mn P w K mg base CX0 2 C_Through "show" ["self"] (spShow (⟨C_Chain, C_Ring, C_Through, C_Can, C_Stopped, C_Cannot, C_Always⟩ : Cc) C_Through)) (FX : Fx K (⟨C_Chain, C_Ring, C_Through, C_Can, C_Stopped, C_Cannot, C_Always⟩ : Cc)) : FnOk P w K mg base CX0 3 f fd ["self"] (spShow (⟨C_Chain, C_Ring, C_Through, C_Can, C_Stopped, C_Cannot, C_Always⟩ : Cc) C_Always) := by
  refine F.ok sc_Always_show (fun vs H Q E h => ?_) (fun cdv A outer s H vs Q E hr h => ?_)
  · obtain ⟨a, x, rfl, _⟩ := h
    rfl
  · obtain ⟨a, x, rfl, ex, ha, ox, q⟩ := h
    refine ⟨_, pss_cons (ps_set (i := 1) sc_Always_show.nd rfl (Or.inl rfl) (pe_lstS (pa_cons pe_str pa_nil)))
        (pss_cons (ps_for PassesOwn.never rfl (pi_tup (pe_fld (pv 0) rfl)) (pg_tup rfl (pgs_cons (pg_name (i := 2) sc_Always_show.nd rfl (Or.inl rfl)) (pgs_cons (pg_name (i := 3) sc_Always_show.nd rfl (Or.inl rfl)) pgs_nil))) (pss_cons (ps_expr (pe_bm PySem.F.plainAttrs_list PySem.F.slot_list_append PySem.F.type_list_append mt_append (pv 1) (pa_cons (pe_joinedN (PJ.cons pe_str (PJ.cons (pe_fmt (pv 2)) PJ.nil))) pa_nil)))
        (pss_one (ps_expr (pe_bm PySem.F.plainAttrs_list PySem.F.slot_list_extend PySem.F.type_list_extend mt_extend (pv 1) (pa_cons (pe_MP (n := 2) (sp := spShow (⟨C_Chain, C_Ring, C_Through, C_Can, C_Stopped, C_Cannot, C_Always⟩ : Cc)) (mem3 (D_Chain_show.up (by decide)) (D_Ring_show.up (by decide)) (D_Through_show.up (by decide))) (cl3 FX) (pv 3) (hr.mono (by decide)) pass0) pa_nil))))))
        (pss_one (ps_ret (pv 1)))), ?_⟩
    obtain ⟨rs, rfl⟩ : ∃ rs, x = Ob.alw rs := is_alw FX.nd ex
    obtain ⟨dx, t, ea, ka⟩ := id ha

    obtain ⟨as, et, f⟩ := id ka
    have las := f2_len f
    have lrs := ox.2
    refine ⟨(by show 1 ≤ 100000; decide), fun H1 l s1 n1 e1 => ?_⟩
    refine ⟨_, rfl, a, C_Always, dx, _, _, rfl, s1 _ _ ea, K_Always.cl, K_Always.no "reasons" (by simp), rfl, t, rfl, ⟨_, SqT.of (s1 _ _ et)⟩, for_it (walk_tup (K := K) (a := t) (xs := as.map V.ref)) (fun i σ H' => ∃ v2 v3, σ = [some (.ref a), some (.ref l), v2, v3] ∧ Same H H' ∧ H' l = some (.lst ((alwL (rs.take i)).map V.str)) ∧ (alwL (rs.take i)).length ≤ 1 + 12 * i)
      ⟨_, _, rfl, s1, e1, by simp [alwL]⟩ (fun i σ H' _ ⟨_, _, _, s, _⟩ => SqT.of (s _ _ et)) ?_ ?_⟩
    · rintro i x σ H2 H3 hi ⟨v2, v3, rfl, s2, e2, len⟩ ⟨rfl, ey⟩
      rw [List.getElem?_map] at ey
      obtain ⟨p, ep, rfl⟩ : ∃ p, as[i]? = some p ∧ x = .ref p := by
        cases e : as[i]? with
        | none => rw [e] at ey; cases ey
        | some p => rw [e] at ey; exact ⟨p, rfl, (Option.some.inj ey).symm⟩
      obtain ⟨r, er, b, hp, z⟩ := f2_getl f ep
      have hi10 : i < 10 := by
        have := (List.getElem?_eq_some_iff.mp er).1
        omega
      obtain ⟨os, o3⟩ := ox.1 r (List.mem_of_getElem? er)
      have l0 := ap_len (x := PySem.Str.empty) (a := 0) (y := "stopper ") (b := 10) (by decide) (by decide)
      have l1 := ap_len l0 os.2
      refine ⟨p, [.str r.1, .ref b], rfl, SqT.of (s2 _ _ hp), rfl, .str r.1, [.ref b], rfl, .ref b, [], rfl, rfl, ?_⟩
      have nl := rsn_len (k := r.2.1) o3
      obtain ⟨dz, tz, ez, kz⟩ := id z
      refine ⟨_, rfl, .inl ⟨rfl, _, SqL.of e2⟩, "stopper ", rfl, by decide, _, rfl, .inl ⟨r.1, rfl, l100 os.2 (by decide), r.1, rfl, l100 l1 (by decide), l, _, .str (named "stopper " r.1), rfl, rfl, e2, ?_, ?_⟩⟩
      · rw [List.length_map]
        exact Nat.lt_of_le_of_lt (Nat.le_trans len (by omega : 1 + 12 * i ≤ 1000)) (by decide)
      have hl0 : H l = none := n1
      have s4 : Same H (upd H3 l (.lst ((alwL (rs.take i)).map V.str ++ [.str (named "stopper " r.1)]))) := same_at s2 hl0
      refine ⟨_, rfl, .inl ⟨rfl, _, SqL.of upd_same⟩, _, rfl, b, _, dz, _, rfl, rsn_mem _ _, s4 _ _ ez, rfl, b, _, rfl, rfl, ob_rsn (rs_same s4 z), rsn_ok o3, fun H5 l5 s5 n5 e5 => ?_⟩
      rw [rsn_lines] at e5
      refine ⟨l, l5, _, _, rfl, rfl, s5 _ _ upd_same, e5, ?_, _, _, rfl, same_at (s4.trans s5) hl0, ?_, ?_⟩
      · rw [List.length_append, List.length_map, List.length_map]
        show _ + 1 + _ ≤ _
        exact line100 (by omega)
      · rw [upd_same, List.take_add_one, er, alwL_snoc, List.map_append]
        simp
      · rw [List.take_add_one, er, alwL_snoc, List.length_append, List.length_cons]
        omega
    · rintro σ H2 ⟨v2, v3, rfl, s2, e2, len⟩
      refine ⟨_, rfl, q H2 l s2 n1 ?_⟩
      rw [List.length_map, las, List.take_length] at e2
      exact e2
end
end K22

set_option Elab.async false
set_option linter.all false
set_option maxRecDepth 100000
set_option maxHeartbeats 4000000
namespace K22
open PySem Nb
open L2 hiding del del_ne del_same
def spRS : Sp := fun vs H Q _ => ∃ (p : Addr) (b : Nat) (G : Hp), vs = [.ref p] ∧ Src H p b ∧ b ≤ 100000 ∧ G p = none ∧ Same G H ∧ ∀ H' t ss, Same G H' → Src H' p (b + 9) → StepsAt H' t ss → Ok3 ss → Q (.ref t) H'
def spShown : Sp := fun vs H Q _ => ∃ (t : Addr) (ss : List St3), vs = [.ref t] ∧ StepsAt H t ss ∧ Ok3 ss ∧ ∀ H' l, Same H H' → H l = none → H' l = some (.lst ((ss.map stepL).map V.str)) → Q (.ref l) H'
theorem four_ok {z : V} (h : z ∈ [V.str "a", V.str "b", V.str "node", V.str "zz"]) : ∃ c, z = .str c ∧ OkS c := by
  simp only [List.mem_cons, List.not_mem_nil, or_false] at h
  rcases h with rfl | rfl | rfl | rfl <;> exact ⟨_, rfl, by decide +kernel, by decide⟩
theorem emp_app (x : PySem.Str) : PySem.Str.empty ++ x = x := by
  obtain ⟨c⟩ := x
  show (⟨#[] ++ c⟩ : PySem.Str) = ⟨c⟩
  rw [Array.empty_append]
theorem stepL_eq (s : St3) : ((((s.1 ++ " ahead of ") ++ s.2.1) ++ " in ") ++ s.2.2) = stepL s := by
  unfold stepL
  rw [emp_app]
theorem named_eq (w n : PySem.Str) : w ++ n = named w n := by
  unfold named
  rw [emp_app]
/-- what is drawn: a step -/
def RsT (y : V) (H : Hp) : Prop := ∃ (t : Addr) (s : St3), y = .ref t ∧ H t = some (tup3 s) ∧ OkS s.1 ∧ OkS s.2.1 ∧ OkS s.2.2
theorem rst_all {H : Hp} : ∀ {is : List Nat} {ys : List V}, F2 (fun (_ : Nat) y => RsT y H) is ys → ∃ (as : List Addr) (ss : List St3), ys = as.map V.ref ∧ F2 (fun a s => H a = some (tup3 s)) as ss ∧ (∀ s ∈ ss, OkS s.1 ∧ OkS s.2.1 ∧ OkS s.2.2) ∧ ss.length = is.length
  | _, _, .nil => ⟨[], [], rfl, .nil, (fun _ h => nomatch h), rfl⟩
  | _, _, .cons ⟨t, s, e, h, o⟩ f => by
    obtain ⟨as, ss, e2, f2, o2, l⟩ := rst_all f
    refine ⟨t :: as, s :: ss, by rw [e, e2]; rfl, .cons h f2, fun x hx => ?_, by rw [List.length_cons, List.length_cons, l]⟩
    rcases List.mem_cons.mp hx with rfl | hx
    · exact o
    · exact o2 x hx
section
variable {P : Program} {w : World} {K : PySem.W.Frag} {mg : Str → Option Value} {base : Heap}
abbrev s_h_random_steps : Stmt := topS 21
theorem sc_h_random_steps : FnScope ["_law_source_here", "_law_some", "_law_turn"] ["_law_source_here"] (defScope s_h_random_steps) := ⟨rfl, rfl, rfl, by decide +kernel, rfl, by decide +kernel, by decide +kernel⟩
def sx_h_random_steps_0 : Scope := { kind := .function, names := [(".0", .local), ("_law_turn", .local), ("_law_pick", .globalImplicit), ("_law_some", .cell), ("_law_source_here", .cell)], isGenerator := false, isCoroutine := false, more := [] }
theorem ok_h_random_steps {f : Addr} {fd : FuncData} (F : Fun K "_law_random_steps" "_law_random_steps" s_h_random_steps f fd) (T : Txt mg) (D_h_pick : Dn P w K mg base CX0 2 "_law_pick" ["_law_source_here", "_law_items"] (spPick)) : FnOk P w K mg base CX0 3 f fd ["_law_source_here"] (spRS) := by
  refine F.ok sc_h_random_steps (fun vs H Q E h => ?_) (fun cdv A outer s H vs Q E hr h => ?_)
  · obtain ⟨p, b, G, rfl, _⟩ := h
    rfl
  · obtain ⟨p, b, G, rfl, S, hB, hG, hs, q⟩ := h
    refine ⟨_, pss_cons (ps_set (i := 1) sc_h_random_steps.nd rfl (Or.inr rfl) (pe_lstS (pa_cons pe_str (pa_cons pe_str (pa_cons pe_str (pa_cons pe_str pa_nil))))))
        (pss_one (ps_ret (pe_callTy cr_tupleS (by rfl) T.tuple (by decide +kernel) (pa_cons (pe_lc (own := [("_law_turn", 2)]) (g := gName 2) (tt := tYes) rfl sc_h_random_steps.nd (pi_range1 (by rfl) T.range (pa_cons pe_int pa_nil)) (blkOk_by (N := ["_law_source_here", "_law_some", "_law_turn"]) (sc := (defScope s_h_random_steps)) (by decide +kernel)) (fun _ _ _ _ _ => (pg_name (i := 2) sc_h_random_steps.nd rfl (Or.inl rfl))) (fun _ _ _ _ _ => pts_nil) (fun _ _ _ _ _ => (pe_tupS (pa_cons (pe_D D_h_pick (hr.mono (by decide)) (by rfl) pass0 (pa_cons (pv 0) (pa_cons (pv 1) pa_nil))) (pa_cons (pe_D D_h_pick (hr.mono (by decide)) (by rfl) pass0 (pa_cons (pv 0) (pa_cons (pv 1) pa_nil))) (pa_cons (pe_D D_h_pick (hr.mono (by decide)) (by rfl) pass0 (pa_cons (pv 0) (pa_cons (pv 1) pa_nil))) pa_nil)))))) pa_nil)))), ?_⟩
    refine ⟨(by show 4 ≤ 100000; decide), fun H1 l s1 n1 e1 => ?_⟩
    have nl := src_away S n1
    have S1 := S.same s1
    refine ⟨_, rfl, by decide, by decide, fun D hD => lcSrc (walk_range (lo := 0) (n := 3)) p b 3 (fun _ => RsT) (fun i y H H' s ⟨t, z, e, h, o⟩ => ⟨t, z, e, s _ _ h, o⟩) (by decide) hD S1 (fun _ _ => trivial) ?_ ?_⟩
    · rintro i y Ha Hb Nx hi sa ⟨xs, eD⟩ nDp Sa ⟨rfl, rfl⟩ N
      have ea := sa _ _ (del_keep e1 nl)
      refine ⟨rfl, ?_⟩
      refine ⟨_, rfl, _, rfl, p, l, _, b + 3 * i, Nb.del Hb p, rfl, del_keep ea nl, (by show 1 ≤ 4; decide), (by show 4 ≤ 1000; decide), Sa, by omega, del_at, del_same, fun Hc z1 hz1 sc Sc => ?_⟩
      have ec := sc _ _ (del_keep ea nl)
      refine ⟨_, rfl, _, rfl, p, l, _, b + 3 * i + 1, Nb.del Hc p, rfl, del_keep ec nl, (by show 1 ≤ 4; decide), (by show 4 ≤ 1000; decide), Sc, by omega, del_at, del_same, fun Hd z2 hz2 sd Sd => ?_⟩
      have ed := sd _ _ (del_keep ec nl)
      refine ⟨_, rfl, _, rfl, p, l, _, b + 3 * i + 2, Nb.del Hd p, rfl, del_keep ed nl, (by show 1 ≤ 4; decide), (by show 4 ≤ 1000; decide), Sd, by omega, del_at, del_same, fun He z3 hz3 se Se => ?_⟩
      obtain ⟨c1, rfl, o1⟩ := four_ok hz1
      obtain ⟨c2, rfl, o2⟩ := four_ok hz2
      obtain ⟨c3, rfl, o3⟩ := four_ok hz3
      refine ⟨(by show 3 ≤ 100000; decide), fun Hf t sf nf ef => ?_⟩
      have f1 : Same (Nb.del Hb p) Hf := (fr_step (fr_step sc sd) se).trans sf
      have Sf := Se.same sf
      refine N _ Hf f1 (Sf.mono (by omega)) ⟨t, (c1, c2, c3), rfl, ?_, o1, o2, o3⟩
      have tp : t ≠ p := src_ne Sf ef (by intro xs z; cases z)
      have tD : t ≠ D := by
        have k := f1 _ _ (del_keep eD nDp)
        exact ne_of ef k (by intro z; cases z)
      rw [Nb.del_ne tp, Nb.del_ne tD]
      exact ef
    · rintro H2 ys s2 e2 S2 f2
      obtain ⟨as, ss, rfl, f3, o3, l3⟩ := rst_all f2
      refine ⟨D, _, rfl, .inl e2, fun H3 t s3 e3 => ?_⟩
      refine q H3 t ss ((same_del (hs.trans s1) hG).trans (s2.trans s3)) ((S2.same s3).mono (by omega)) ⟨as, e3, f2_imp (fun _ _ k => s3 _ _ k) f3⟩ ⟨o3, ?_⟩
      rw [l3, List.length_range]
      decide
abbrev s_h_shown : Stmt := topS 22
theorem sc_h_shown : FnScope ["_law_steps", "_law_step"] ["_law_steps"] (defScope s_h_shown) := ⟨rfl, rfl, rfl, by decide +kernel, rfl, by decide +kernel, by decide +kernel⟩
def sx_h_shown_0 : Scope := { kind := .function, names := [(".0", .local), ("_law_step", .local)], isGenerator := false, isCoroutine := false, more := [] }
theorem ok_h_shown {f : Addr} {fd : FuncData} (F : Fun K "_law_shown" "_law_shown" s_h_shown f fd) (T : Txt mg) : FnOk P w K mg base CX0 1 f fd ["_law_steps"] (spShown) := by
  refine F.ok sc_h_shown (fun vs H Q E h => ?_) (fun cdv A outer s H vs Q E hr h => ?_)
  · obtain ⟨t, ss, rfl, _⟩ := h
    rfl
  · obtain ⟨t, ss, rfl, hs, ok, q⟩ := h
    refine ⟨_, pss_one (ps_ret (pe_lc (own := [("_law_step", 1)]) (g := gName 1) (tt := tYes) rfl sc_h_shown.nd (pi_tup (pv 0)) (blkOk_by (N := ["_law_steps", "_law_step"]) (sc := (defScope s_h_shown)) (by decide +kernel)) (fun _ _ _ _ _ => (pg_name (i := 1) sc_h_shown.nd rfl (Or.inl rfl))) (fun _ _ _ _ _ => pts_nil) (fun _ _ _ _ _ => (pe_op op_add_str (pe_op op_add_str (pe_op op_add_str (pe_op op_add_str (pe_ix (r := rIxT K) ix_tup (pv 1) pe_int (fun _ _ => rfl)) pe_str) (pe_ix (r := rIxT K) ix_tup (pv 1) pe_int (fun _ _ => rfl))) pe_str) (pe_ix (r := rIxT K) ix_tup (pv 1) pe_int (fun _ _ => rfl)))))), ?_⟩
    obtain ⟨as, et, f⟩ := hs
    have la := f2_len f
    have l10 := ok.2
    refine ⟨_, rfl, t, rfl, ⟨_, SqT.of et⟩, fun D hD => ?_⟩
    refine lcM (walk_tup (K := K) (a := t) (xs := as.map V.ref)) (fun i => .str (stepL (ss.getD i ("", "", "")))) (by rw [List.length_map]; omega) hD (fun H5 s5 => SqT.of (s5 _ _ et)) ?_ ?_
    · rintro i y Ha Hb Nx hi sa ⟨rfl, ey⟩ N
      rw [List.getElem?_map] at ey
      obtain ⟨p, ep, rfl⟩ : ∃ p, as[i]? = some p ∧ y = .ref p := by
        cases e : as[i]? with
        | none => rw [e] at ey; cases ey
        | some p => rw [e] at ey; exact ⟨p, rfl, (Option.some.inj ey).symm⟩
      obtain ⟨s, es, hp⟩ := f2_getl f ep
      obtain ⟨o1, o2, o3⟩ := ok.1 s (List.mem_of_getElem? es)
      have l1 := ap_len (y := " ahead of ") (b := 10) o1.2 (by decide)
      have l2 := ap_len l1 o2.2
      have l3 := ap_len (y := " in ") (b := 4) l2 (by decide)
      have e := getD_at (("", "", "") : St3) es
      rw [e] at N
      have sq := SqT.of (sa _ _ hp) (K := K)
      have b1 : (" ahead of " : PySem.Str).length = 10 := by decide
      have b2 : (" in " : PySem.Str).length = 4 := by decide
      have k1 := o1.2
      have k2 := o2.2
      have k3 := o3.2
      refine ⟨rfl, ?_⟩
      refine ⟨_, rfl, p, _, _, .str s.1, rfl, rfl, sq, atI_nat (j := 0) rfl, _, _, rfl, rfl, line100 (by omega), _, rfl, p, _, _, .str s.2.1, rfl, rfl, sq, atI_nat (j := 1) rfl, _, _, rfl, rfl, line100 (by omega), _, _, rfl, rfl, line100 (by omega), _, rfl, p, _, _, .str s.2.2, rfl, rfl, sq, atI_nat (j := 2) rfl, _, _, rfl, rfl, line100 (by omega), ?_⟩
      rw [stepL_eq]
      exact N _ (Same.refl _)
    · intro H2 s2 e2
      refine q H2 D s2 hD ?_
      rw [e2, List.length_map, la, List.map_map]
      exact congrArg (fun z => some (HO.lst z)) (map_range (("", "", "") : St3) (fun s => V.str (stepL s)) ss)
end
end K22

set_option Elab.async false
set_option linter.all false
set_option maxRecDepth 100000
set_option maxHeartbeats 4000000
namespace K22
open PySem Nb
open L2 hiding del del_ne del_same
def obs (ss : List St3) : List Ob := [.chain ss, .ring ss, .thr ss "a", .thr ss "b", .can ["a"], .stp ["a"] "a", .stp ["a"] "b", .cant false ss, .cant true ss, .alw [("a", true, ss)]]
theorem mkS1 {H : Hp} {r dx : Addr} {o1 o2 o3 : HO} (nr : H r = none) (nd : H dx = none) : Same H (upd (upd (upd H dx o1) r o2) r o3) := same_at (same_at (same_new nd) nr) nr
theorem mkS2 {H : Hp} {r dx : Addr} {o1 o2 o3 o4 : HO} (nr : H r = none) (nd : H dx = none) : Same H (upd (upd (upd (upd H dx o1) r o2) r o3) r o4) := same_at (mkS1 nr nd) nr
def spSome (c : Cc) : Sp := fun vs H Q _ => ∃ (t : Addr) (ss : List St3), vs = [.ref t] ∧ StepsAt H t ss ∧ Ok3 ss ∧ ∀ H' l (as : List Addr), Same H H' → H l = none → H' l = some (.lst (as.map V.ref)) → F2 (ObAt c H') as (obs ss) → Q (.ref l) H'
section
variable {P : Program} {w : World} {K : PySem.W.Frag} {mg : Str → Option Value} {base : Heap}
abbrev s_h_some_objects : Stmt := topS 25
theorem sc_h_some_objects : FnScope ["_law_steps", "_law_found"] ["_law_steps"] (defScope s_h_some_objects) := ⟨rfl, rfl, rfl, by decide +kernel, rfl, by decide +kernel, by decide +kernel⟩
theorem ok_h_some_objects {f : Addr} {fd : FuncData} (F : Fun K "_law_some_objects" "_law_some_objects" s_h_some_objects f fd) {C_Always : Addr} {C_Can : Addr} {C_Cannot : Addr} {C_Chain : Addr} {C_Ring : Addr} {C_Stopped : Addr} {C_Through : Addr} (T : Txt mg) (K_Always : Kl K mg "Always" C_Always ["reasons"]) (K_Can : Kl K mg "Can" C_Can ["future"]) (K_Cannot : Kl K mg "Cannot" C_Cannot ["reason"]) (K_Chain : Kl K mg "Chain" C_Chain ["steps"]) (K_Ring : Kl K mg "Ring" C_Ring ["steps"]) (K_Stopped : Kl K mg "Stopped" C_Stopped ["future", "name"]) (K_Through : Kl K mg "Through" C_Through ["steps", "name"]) (D_Chain___init : Mi P w K mg base CX0 1 C_Chain ["self", "steps"] (spInit1 C_Chain "steps")) (D_Ring___init : Mi P w K mg base CX0 1 C_Ring ["self", "steps"] (spInit1 C_Ring "steps")) (D_Through___init : Mi P w K mg base CX0 1 C_Through ["self", "steps", "name"] (spInit2 C_Through "steps" "name")) (D_Can___init : Mi P w K mg base CX0 1 C_Can ["self", "future"] (spInit1 C_Can "future")) (D_Stopped___init : Mi P w K mg base CX0 1 C_Stopped ["self", "future", "name"] (spInit2 C_Stopped "future" "name")) (D_Cannot___init : Mi P w K mg base CX0 1 C_Cannot ["self", "reason"] (spInit1 C_Cannot "reason")) (D_Always___init : Mi P w K mg base CX0 1 C_Always ["self", "reasons"] (spInit1 C_Always "reasons")) : FnOk P w K mg base CX0 3 f fd ["_law_steps"] (spSome (⟨C_Chain, C_Ring, C_Through, C_Can, C_Stopped, C_Cannot, C_Always⟩ : Cc)) := by
  refine F.ok sc_h_some_objects (fun vs H Q E h => ?_) (fun cdv A outer s H vs Q E hr h => ?_)
  · obtain ⟨t, ss, rfl, _⟩ := h
    rfl
  · obtain ⟨t, ss, rfl, ks, ok, q⟩ := h
    refine ⟨_, pss_cons (ps_set (i := 1) sc_h_some_objects.nd rfl (Or.inl rfl) (pe_lstS (pa_cons (pe_Mi D_Chain___init (hr.mono (by decide)) (by rfl) K_Chain.g pass0 (pa_cons (pv 0) pa_nil)) (pa_cons (pe_Mi D_Ring___init (hr.mono (by decide)) (by rfl) K_Ring.g pass0 (pa_cons (pv 0) pa_nil)) (pa_cons (pe_Mi D_Through___init (hr.mono (by decide)) (by rfl) K_Through.g pass0 (pa_cons (pv 0) (pa_cons pe_str pa_nil))) (pa_cons (pe_Mi D_Through___init (hr.mono (by decide)) (by rfl) K_Through.g pass0 (pa_cons (pv 0) (pa_cons pe_str pa_nil))) (pa_cons (pe_Mi D_Can___init (hr.mono (by decide)) (by rfl) K_Can.g pass0 (pa_cons (pe_tupS (pa_cons pe_str pa_nil)) pa_nil)) (pa_cons (pe_Mi D_Stopped___init (hr.mono (by decide)) (by rfl) K_Stopped.g pass0 (pa_cons (pe_tupS (pa_cons pe_str pa_nil)) (pa_cons pe_str pa_nil))) pa_nil))))))))
        (pss_one (ps_ret (pe_op op_catS (pv 1) (pe_lstS (pa_cons (pe_Mi D_Stopped___init (hr.mono (by decide)) (by rfl) K_Stopped.g pass0 (pa_cons (pe_tupS (pa_cons pe_str pa_nil)) (pa_cons pe_str pa_nil))) (pa_cons (pe_Mi D_Cannot___init (hr.mono (by decide)) (by rfl) K_Cannot.g pass0 (pa_cons (pe_Mi D_Chain___init (hr.mono (by decide)) (by rfl) K_Chain.g pass0 (pa_cons (pv 0) pa_nil)) pa_nil)) (pa_cons (pe_Mi D_Cannot___init (hr.mono (by decide)) (by rfl) K_Cannot.g pass0 (pa_cons (pe_Mi D_Ring___init (hr.mono (by decide)) (by rfl) K_Ring.g pass0 (pa_cons (pv 0) pa_nil)) pa_nil)) (pa_cons (pe_Mi D_Always___init (hr.mono (by decide)) (by rfl) K_Always.g pass0 (pa_cons (pe_tupS (pa_cons (pe_tupS (pa_cons pe_str (pa_cons (pe_Mi D_Ring___init (hr.mono (by decide)) (by rfl) K_Ring.g pass0 (pa_cons (pv 0) pa_nil)) pa_nil))) pa_nil)) pa_nil)) pa_nil)))))))), ?_⟩
    refine ⟨_, rfl, fun r1 d1 n1 m1 _ => ⟨r1, d1, V.ref t, rfl, upd_same, rfl, ?_⟩⟩
    have z1 : Same H (upd (upd (upd H d1 (HO.own r1)) r1 (HO.ins C_Chain d1 [])) r1 (HO.ins C_Chain d1 [("steps", V.ref t)])) := mkS1 n1 m1
    have e1 : (upd (upd (upd H d1 (HO.own r1)) r1 (HO.ins C_Chain d1 [])) r1 (HO.ins C_Chain d1 [("steps", V.ref t)])) r1 = some (.ins C_Chain d1 [("steps", V.ref t)]) := upd_same
    generalize upd (upd (upd H d1 (HO.own r1)) r1 (HO.ins C_Chain d1 [])) r1 (HO.ins C_Chain d1 [("steps", V.ref t)]) = Z1 at z1 e1 ⊢
    refine ⟨_, rfl, fun r2 d2 n2 m2 _ => ⟨r2, d2, V.ref t, rfl, upd_same, rfl, ?_⟩⟩
    have z2 : Same Z1 (upd (upd (upd Z1 d2 (HO.own r2)) r2 (HO.ins C_Ring d2 [])) r2 (HO.ins C_Ring d2 [("steps", V.ref t)])) := mkS1 n2 m2
    have e2 : (upd (upd (upd Z1 d2 (HO.own r2)) r2 (HO.ins C_Ring d2 [])) r2 (HO.ins C_Ring d2 [("steps", V.ref t)])) r2 = some (.ins C_Ring d2 [("steps", V.ref t)]) := upd_same
    generalize upd (upd (upd Z1 d2 (HO.own r2)) r2 (HO.ins C_Ring d2 [])) r2 (HO.ins C_Ring d2 [("steps", V.ref t)]) = Z2 at z2 e2 ⊢
    refine ⟨_, rfl, fun r3 d3 n3 m3 _ => ⟨r3, d3, V.ref t, V.str "a", rfl, upd_same, rfl, ?_⟩⟩
    have z3 : Same Z2 (upd (upd (upd (upd Z2 d3 (HO.own r3)) r3 (HO.ins C_Through d3 [])) r3 (HO.ins C_Through d3 [("steps", V.ref t)])) r3 (HO.ins C_Through d3 [("steps", V.ref t), ("name", V.str "a")])) := mkS2 n3 m3
    have e3 : (upd (upd (upd (upd Z2 d3 (HO.own r3)) r3 (HO.ins C_Through d3 [])) r3 (HO.ins C_Through d3 [("steps", V.ref t)])) r3 (HO.ins C_Through d3 [("steps", V.ref t), ("name", V.str "a")])) r3 = some (.ins C_Through d3 [("steps", V.ref t), ("name", V.str "a")]) := upd_same
    generalize upd (upd (upd (upd Z2 d3 (HO.own r3)) r3 (HO.ins C_Through d3 [])) r3 (HO.ins C_Through d3 [("steps", V.ref t)])) r3 (HO.ins C_Through d3 [("steps", V.ref t), ("name", V.str "a")]) = Z3 at z3 e3 ⊢
    refine ⟨_, rfl, fun r4 d4 n4 m4 _ => ⟨r4, d4, V.ref t, V.str "b", rfl, upd_same, rfl, ?_⟩⟩
    have z4 : Same Z3 (upd (upd (upd (upd Z3 d4 (HO.own r4)) r4 (HO.ins C_Through d4 [])) r4 (HO.ins C_Through d4 [("steps", V.ref t)])) r4 (HO.ins C_Through d4 [("steps", V.ref t), ("name", V.str "b")])) := mkS2 n4 m4
    have e4 : (upd (upd (upd (upd Z3 d4 (HO.own r4)) r4 (HO.ins C_Through d4 [])) r4 (HO.ins C_Through d4 [("steps", V.ref t)])) r4 (HO.ins C_Through d4 [("steps", V.ref t), ("name", V.str "b")])) r4 = some (.ins C_Through d4 [("steps", V.ref t), ("name", V.str "b")]) := upd_same
    generalize upd (upd (upd (upd Z3 d4 (HO.own r4)) r4 (HO.ins C_Through d4 [])) r4 (HO.ins C_Through d4 [("steps", V.ref t)])) r4 (HO.ins C_Through d4 [("steps", V.ref t), ("name", V.str "b")]) = Z4 at z4 e4 ⊢
    refine ⟨(by show 1 ≤ 100000; decide), fun Z5 r5 z5 n5 e5 => ?_⟩
    refine fun r6 d6 n6 m6 _ => ⟨r6, d6, V.ref r5, rfl, upd_same, rfl, ?_⟩
    have z6 : Same Z5 (upd (upd (upd Z5 d6 (HO.own r6)) r6 (HO.ins C_Can d6 [])) r6 (HO.ins C_Can d6 [("future", V.ref r5)])) := mkS1 n6 m6
    have e6 : (upd (upd (upd Z5 d6 (HO.own r6)) r6 (HO.ins C_Can d6 [])) r6 (HO.ins C_Can d6 [("future", V.ref r5)])) r6 = some (.ins C_Can d6 [("future", V.ref r5)]) := upd_same
    generalize upd (upd (upd Z5 d6 (HO.own r6)) r6 (HO.ins C_Can d6 [])) r6 (HO.ins C_Can d6 [("future", V.ref r5)]) = Z6 at z6 e6 ⊢
    refine ⟨(by show 1 ≤ 100000; decide), fun Z7 r7 z7 n7 e7 => ?_⟩
    refine fun r8 d8 n8 m8 _ => ⟨r8, d8, V.ref r7, V.str "a", rfl, upd_same, rfl, ?_⟩
    have z8 : Same Z7 (upd (upd (upd (upd Z7 d8 (HO.own r8)) r8 (HO.ins C_Stopped d8 [])) r8 (HO.ins C_Stopped d8 [("future", V.ref r7)])) r8 (HO.ins C_Stopped d8 [("future", V.ref r7), ("name", V.str "a")])) := mkS2 n8 m8
    have e8 : (upd (upd (upd (upd Z7 d8 (HO.own r8)) r8 (HO.ins C_Stopped d8 [])) r8 (HO.ins C_Stopped d8 [("future", V.ref r7)])) r8 (HO.ins C_Stopped d8 [("future", V.ref r7), ("name", V.str "a")])) r8 = some (.ins C_Stopped d8 [("future", V.ref r7), ("name", V.str "a")]) := upd_same
    generalize upd (upd (upd (upd Z7 d8 (HO.own r8)) r8 (HO.ins C_Stopped d8 [])) r8 (HO.ins C_Stopped d8 [("future", V.ref r7)])) r8 (HO.ins C_Stopped d8 [("future", V.ref r7), ("name", V.str "a")]) = Z8 at z8 e8 ⊢
    refine ⟨(by show 6 ≤ 100000; decide), fun Z9 r9 z9 n9 e9 => ?_⟩
    refine ⟨_, rfl, (by show 1 ≤ 100000; decide), fun Z10 r10 z10 n10 e10 => ?_⟩
    refine fun r11 d11 n11 m11 _ => ⟨r11, d11, V.ref r10, V.str "b", rfl, upd_same, rfl, ?_⟩
    have z11 : Same Z10 (upd (upd (upd (upd Z10 d11 (HO.own r11)) r11 (HO.ins C_Stopped d11 [])) r11 (HO.ins C_Stopped d11 [("future", V.ref r10)])) r11 (HO.ins C_Stopped d11 [("future", V.ref r10), ("name", V.str "b")])) := mkS2 n11 m11
    have e11 : (upd (upd (upd (upd Z10 d11 (HO.own r11)) r11 (HO.ins C_Stopped d11 [])) r11 (HO.ins C_Stopped d11 [("future", V.ref r10)])) r11 (HO.ins C_Stopped d11 [("future", V.ref r10), ("name", V.str "b")])) r11 = some (.ins C_Stopped d11 [("future", V.ref r10), ("name", V.str "b")]) := upd_same
    generalize upd (upd (upd (upd Z10 d11 (HO.own r11)) r11 (HO.ins C_Stopped d11 [])) r11 (HO.ins C_Stopped d11 [("future", V.ref r10)])) r11 (HO.ins C_Stopped d11 [("future", V.ref r10), ("name", V.str "b")]) = Z11 at z11 e11 ⊢
    refine ⟨_, rfl, fun r12 d12 n12 m12 _ => ⟨r12, d12, V.ref t, rfl, upd_same, rfl, ?_⟩⟩
    have z12 : Same Z11 (upd (upd (upd Z11 d12 (HO.own r12)) r12 (HO.ins C_Chain d12 [])) r12 (HO.ins C_Chain d12 [("steps", V.ref t)])) := mkS1 n12 m12
    have e12 : (upd (upd (upd Z11 d12 (HO.own r12)) r12 (HO.ins C_Chain d12 [])) r12 (HO.ins C_Chain d12 [("steps", V.ref t)])) r12 = some (.ins C_Chain d12 [("steps", V.ref t)]) := upd_same
    generalize upd (upd (upd Z11 d12 (HO.own r12)) r12 (HO.ins C_Chain d12 [])) r12 (HO.ins C_Chain d12 [("steps", V.ref t)]) = Z12 at z12 e12 ⊢
    refine fun r13 d13 n13 m13 _ => ⟨r13, d13, V.ref r12, rfl, upd_same, rfl, ?_⟩
    have z13 : Same Z12 (upd (upd (upd Z12 d13 (HO.own r13)) r13 (HO.ins C_Cannot d13 [])) r13 (HO.ins C_Cannot d13 [("reason", V.ref r12)])) := mkS1 n13 m13
    have e13 : (upd (upd (upd Z12 d13 (HO.own r13)) r13 (HO.ins C_Cannot d13 [])) r13 (HO.ins C_Cannot d13 [("reason", V.ref r12)])) r13 = some (.ins C_Cannot d13 [("reason", V.ref r12)]) := upd_same
    generalize upd (upd (upd Z12 d13 (HO.own r13)) r13 (HO.ins C_Cannot d13 [])) r13 (HO.ins C_Cannot d13 [("reason", V.ref r12)]) = Z13 at z13 e13 ⊢
    refine ⟨_, rfl, fun r14 d14 n14 m14 _ => ⟨r14, d14, V.ref t, rfl, upd_same, rfl, ?_⟩⟩
    have z14 : Same Z13 (upd (upd (upd Z13 d14 (HO.own r14)) r14 (HO.ins C_Ring d14 [])) r14 (HO.ins C_Ring d14 [("steps", V.ref t)])) := mkS1 n14 m14
    have e14 : (upd (upd (upd Z13 d14 (HO.own r14)) r14 (HO.ins C_Ring d14 [])) r14 (HO.ins C_Ring d14 [("steps", V.ref t)])) r14 = some (.ins C_Ring d14 [("steps", V.ref t)]) := upd_same
    generalize upd (upd (upd Z13 d14 (HO.own r14)) r14 (HO.ins C_Ring d14 [])) r14 (HO.ins C_Ring d14 [("steps", V.ref t)]) = Z14 at z14 e14 ⊢
    refine fun r15 d15 n15 m15 _ => ⟨r15, d15, V.ref r14, rfl, upd_same, rfl, ?_⟩
    have z15 : Same Z14 (upd (upd (upd Z14 d15 (HO.own r15)) r15 (HO.ins C_Cannot d15 [])) r15 (HO.ins C_Cannot d15 [("reason", V.ref r14)])) := mkS1 n15 m15
    have e15 : (upd (upd (upd Z14 d15 (HO.own r15)) r15 (HO.ins C_Cannot d15 [])) r15 (HO.ins C_Cannot d15 [("reason", V.ref r14)])) r15 = some (.ins C_Cannot d15 [("reason", V.ref r14)]) := upd_same
    generalize upd (upd (upd Z14 d15 (HO.own r15)) r15 (HO.ins C_Cannot d15 [])) r15 (HO.ins C_Cannot d15 [("reason", V.ref r14)]) = Z15 at z15 e15 ⊢
    refine ⟨_, rfl, fun r16 d16 n16 m16 _ => ⟨r16, d16, V.ref t, rfl, upd_same, rfl, ?_⟩⟩
    have z16 : Same Z15 (upd (upd (upd Z15 d16 (HO.own r16)) r16 (HO.ins C_Ring d16 [])) r16 (HO.ins C_Ring d16 [("steps", V.ref t)])) := mkS1 n16 m16
    have e16 : (upd (upd (upd Z15 d16 (HO.own r16)) r16 (HO.ins C_Ring d16 [])) r16 (HO.ins C_Ring d16 [("steps", V.ref t)])) r16 = some (.ins C_Ring d16 [("steps", V.ref t)]) := upd_same
    generalize upd (upd (upd Z15 d16 (HO.own r16)) r16 (HO.ins C_Ring d16 [])) r16 (HO.ins C_Ring d16 [("steps", V.ref t)]) = Z16 at z16 e16 ⊢
    refine ⟨(by show 2 ≤ 100000; decide), fun Z17 r17 z17 n17 e17 => ?_⟩
    refine ⟨(by show 1 ≤ 100000; decide), fun Z18 r18 z18 n18 e18 => ?_⟩
    refine fun r19 d19 n19 m19 _ => ⟨r19, d19, V.ref r18, rfl, upd_same, rfl, ?_⟩
    have z19 : Same Z18 (upd (upd (upd Z18 d19 (HO.own r19)) r19 (HO.ins C_Always d19 [])) r19 (HO.ins C_Always d19 [("reasons", V.ref r18)])) := mkS1 n19 m19
    have e19 : (upd (upd (upd Z18 d19 (HO.own r19)) r19 (HO.ins C_Always d19 [])) r19 (HO.ins C_Always d19 [("reasons", V.ref r18)])) r19 = some (.ins C_Always d19 [("reasons", V.ref r18)]) := upd_same
    generalize upd (upd (upd Z18 d19 (HO.own r19)) r19 (HO.ins C_Always d19 [])) r19 (HO.ins C_Always d19 [("reasons", V.ref r18)]) = Z19 at z19 e19 ⊢
    refine ⟨(by show 4 ≤ 100000; decide), fun Z20 r20 z20 n20 e20 => ?_⟩
    refine ⟨r9, r20, _, _, rfl, rfl, (z10.trans (z11.trans (z12.trans (z13.trans (z14.trans (z15.trans (z16.trans (z17.trans (z18.trans (z19.trans z20)))))))))) _ _ e9, e20, (by show 6 + 4 ≤ 100000; decide), fun Z21 r21 z21 n21 e21 => ?_⟩
    exact q _ _ [r1, r2, r3, r4, r6, r8, r11, r13, r15, r19] (z1.trans (z2.trans (z3.trans (z4.trans (z5.trans (z6.trans (z7.trans (z8.trans (z9.trans (z10.trans (z11.trans (z12.trans (z13.trans (z14.trans (z15.trans (z16.trans (z17.trans (z18.trans (z19.trans (z20.trans z21)))))))))))))))))))) (((z1.trans (z2.trans (z3.trans (z4.trans (z5.trans (z6.trans (z7.trans (z8.trans (z9.trans (z10.trans (z11.trans (z12.trans (z13.trans (z14.trans (z15.trans (z16.trans (z17.trans (z18.trans (z19.trans z20)))))))))))))))))))).free n21) e21 (.cons (show ObAt _ _ _ _ from ⟨_, _, ((z2.trans (z3.trans (z4.trans (z5.trans (z6.trans (z7.trans (z8.trans (z9.trans (z10.trans (z11.trans (z12.trans (z13.trans (z14.trans (z15.trans (z16.trans (z17.trans (z18.trans (z19.trans (z20.trans z21))))))))))))))))))) _ _ e1), (steps_same (z1.trans (z2.trans (z3.trans (z4.trans (z5.trans (z6.trans (z7.trans (z8.trans (z9.trans (z10.trans (z11.trans (z12.trans (z13.trans (z14.trans (z15.trans (z16.trans (z17.trans (z18.trans (z19.trans (z20.trans z21)))))))))))))))))))) ks)⟩) (.cons (show ObAt _ _ _ _ from ⟨_, _, ((z3.trans (z4.trans (z5.trans (z6.trans (z7.trans (z8.trans (z9.trans (z10.trans (z11.trans (z12.trans (z13.trans (z14.trans (z15.trans (z16.trans (z17.trans (z18.trans (z19.trans (z20.trans z21)))))))))))))))))) _ _ e2), (steps_same (z1.trans (z2.trans (z3.trans (z4.trans (z5.trans (z6.trans (z7.trans (z8.trans (z9.trans (z10.trans (z11.trans (z12.trans (z13.trans (z14.trans (z15.trans (z16.trans (z17.trans (z18.trans (z19.trans (z20.trans z21)))))))))))))))))))) ks)⟩) (.cons (show ObAt _ _ _ _ from ⟨_, _, ((z4.trans (z5.trans (z6.trans (z7.trans (z8.trans (z9.trans (z10.trans (z11.trans (z12.trans (z13.trans (z14.trans (z15.trans (z16.trans (z17.trans (z18.trans (z19.trans (z20.trans z21))))))))))))))))) _ _ e3), (steps_same (z1.trans (z2.trans (z3.trans (z4.trans (z5.trans (z6.trans (z7.trans (z8.trans (z9.trans (z10.trans (z11.trans (z12.trans (z13.trans (z14.trans (z15.trans (z16.trans (z17.trans (z18.trans (z19.trans (z20.trans z21)))))))))))))))))))) ks)⟩) (.cons (show ObAt _ _ _ _ from ⟨_, _, ((z5.trans (z6.trans (z7.trans (z8.trans (z9.trans (z10.trans (z11.trans (z12.trans (z13.trans (z14.trans (z15.trans (z16.trans (z17.trans (z18.trans (z19.trans (z20.trans z21)))))))))))))))) _ _ e4), (steps_same (z1.trans (z2.trans (z3.trans (z4.trans (z5.trans (z6.trans (z7.trans (z8.trans (z9.trans (z10.trans (z11.trans (z12.trans (z13.trans (z14.trans (z15.trans (z16.trans (z17.trans (z18.trans (z19.trans (z20.trans z21)))))))))))))))))))) ks)⟩) (.cons (show ObAt _ _ _ _ from ⟨_, _, ((z7.trans (z8.trans (z9.trans (z10.trans (z11.trans (z12.trans (z13.trans (z14.trans (z15.trans (z16.trans (z17.trans (z18.trans (z19.trans (z20.trans z21)))))))))))))) _ _ e6), ((z6.trans (z7.trans (z8.trans (z9.trans (z10.trans (z11.trans (z12.trans (z13.trans (z14.trans (z15.trans (z16.trans (z17.trans (z18.trans (z19.trans (z20.trans z21))))))))))))))) _ _ e5)⟩) (.cons (show ObAt _ _ _ _ from ⟨_, _, ((z9.trans (z10.trans (z11.trans (z12.trans (z13.trans (z14.trans (z15.trans (z16.trans (z17.trans (z18.trans (z19.trans (z20.trans z21)))))))))))) _ _ e8), ((z8.trans (z9.trans (z10.trans (z11.trans (z12.trans (z13.trans (z14.trans (z15.trans (z16.trans (z17.trans (z18.trans (z19.trans (z20.trans z21))))))))))))) _ _ e7)⟩) (.cons (show ObAt _ _ _ _ from ⟨_, _, ((z12.trans (z13.trans (z14.trans (z15.trans (z16.trans (z17.trans (z18.trans (z19.trans (z20.trans z21))))))))) _ _ e11), ((z11.trans (z12.trans (z13.trans (z14.trans (z15.trans (z16.trans (z17.trans (z18.trans (z19.trans (z20.trans z21)))))))))) _ _ e10)⟩) (.cons (show ObAt _ _ _ _ from ⟨_, _, ((z14.trans (z15.trans (z16.trans (z17.trans (z18.trans (z19.trans (z20.trans z21))))))) _ _ e13), ⟨_, _, ((z13.trans (z14.trans (z15.trans (z16.trans (z17.trans (z18.trans (z19.trans (z20.trans z21)))))))) _ _ e12), (steps_same (z1.trans (z2.trans (z3.trans (z4.trans (z5.trans (z6.trans (z7.trans (z8.trans (z9.trans (z10.trans (z11.trans (z12.trans (z13.trans (z14.trans (z15.trans (z16.trans (z17.trans (z18.trans (z19.trans (z20.trans z21)))))))))))))))))))) ks)⟩⟩) (.cons (show ObAt _ _ _ _ from ⟨_, _, ((z16.trans (z17.trans (z18.trans (z19.trans (z20.trans z21))))) _ _ e15), ⟨_, _, ((z15.trans (z16.trans (z17.trans (z18.trans (z19.trans (z20.trans z21)))))) _ _ e14), (steps_same (z1.trans (z2.trans (z3.trans (z4.trans (z5.trans (z6.trans (z7.trans (z8.trans (z9.trans (z10.trans (z11.trans (z12.trans (z13.trans (z14.trans (z15.trans (z16.trans (z17.trans (z18.trans (z19.trans (z20.trans z21)))))))))))))))))))) ks)⟩⟩) (.cons (show ObAt _ _ _ _ from ⟨_, _, ((z20.trans z21) _ _ e19), [r17], ((z19.trans (z20.trans z21)) _ _ e18), .cons ⟨_, ((z18.trans (z19.trans (z20.trans z21))) _ _ e17), ⟨_, _, ((z17.trans (z18.trans (z19.trans (z20.trans z21)))) _ _ e16), (steps_same (z1.trans (z2.trans (z3.trans (z4.trans (z5.trans (z6.trans (z7.trans (z8.trans (z9.trans (z10.trans (z11.trans (z12.trans (z13.trans (z14.trans (z15.trans (z16.trans (z17.trans (z18.trans (z19.trans (z20.trans z21)))))))))))))))))))) ks)⟩⟩ .nil⟩) (.nil)))))))))))
end
end K22

set_option Elab.async false
set_option linter.all false
set_option maxRecDepth 100000
set_option maxHeartbeats 4000000
namespace K22
open PySem Nb
open L2 hiding del del_ne del_same
theorem sApp (x y : PySem.Str) : x ++ y = ⟨x.cps ++ y.cps⟩ := rfl
theorem sAssoc (x y z : PySem.Str) : (x ++ y) ++ z = x ++ (y ++ z) := by
  rw [sApp, sApp, sApp, sApp, Array.append_assoc]
theorem sOk {x y : PySem.Str} (h : PyData.strOk x = true) (k : PyData.strOk y = true) : PyData.strOk (x ++ y) = true := by
  unfold PyData.strOk at h k ⊢
  rw [sApp]
  rw [Array.all_append, h, k]
  rfl
theorem sOk_join {s : PySem.Str} (hs : PyData.strOk s = true) : ∀ {zs : List PySem.Str}, (∀ z ∈ zs, PyData.strOk z = true) → PyData.strOk (Str.join s zs) = true
  | [], _ => by
    show PyData.strOk Str.empty = true
    decide +kernel
  | [x], h => h x (List.mem_cons_self ..)
  | x :: z :: r, h => by
    show PyData.strOk (x ++ s ++ Str.join s (z :: r)) = true
    exact sOk (sOk (h x (List.mem_cons_self ..)) hs) (sOk_join hs fun y hy => h y (List.mem_cons_of_mem _ hy))
theorem join_pre (s a x : PySem.Str) : ∀ r, Str.join s ((a ++ x) :: r) = a ++ Str.join s (x :: r)
  | [] => rfl
  | z :: r => by
    show (a ++ x) ++ s ++ Str.join s (z :: r) = a ++ (x ++ s ++ Str.join s (z :: r))
    rw [sAssoc, sAssoc, sAssoc]
theorem join_sp : ∀ (f : List PySem.Str) (x : PySem.Str), Str.join "" (x :: f.map fun z => (" " : PySem.Str) ++ z) = Str.join " " (x :: f)
  | [], x => rfl
  | z :: f, x => by
    show x ++ "" ++ Str.join "" (((" " : PySem.Str) ++ z) :: f.map fun z => (" " : PySem.Str) ++ z) = x ++ " " ++ Str.join " " (z :: f)
    rw [join_pre, join_sp f z]
    have e : x ++ ("" : PySem.Str) = x := by
      obtain ⟨c⟩ := x
      show (⟨c ++ #[]⟩ : PySem.Str) = ⟨c⟩
      rw [Array.append_empty]
    rw [e, sAssoc]
theorem futL_eq (f : List PySem.Str) : Txt.join "" (("future" : PySem.Str) :: f.map fun z => (" " : PySem.Str) ++ z) = futL f := by
  unfold futL
  rw [TL.join_eq, TL.join_eq, join_sp]
theorem step_ok {s : St3} (h : OkS s.1 ∧ OkS s.2.1 ∧ OkS s.2.2) : PyData.strOk (stepL s) = true := by
  unfold stepL
  rw [emp_app]
  exact sOk (sOk (sOk (sOk h.1.1 (by decide +kernel)) h.2.1.1) (by decide +kernel)) h.2.2.1
theorem named_ok {w n : PySem.Str} (hw : PyData.strOk w = true) (h : OkS n) : PyData.strOk (named w n) = true := by
  rw [← named_eq]
  exact sOk hw h.1
theorem steps_ok {ss : List St3} (h : Ok3 ss) : ∀ z ∈ ss.map stepL, PyData.strOk z = true := fun z hz => by
  obtain ⟨s, hs, rfl⟩ := List.mem_map.mp hz
  exact step_ok (h.1 s hs)
theorem snoc_ok {zs : List PySem.Str} {x : PySem.Str} (h : ∀ z ∈ zs, PyData.strOk z = true) (k : PyData.strOk x = true) : ∀ z ∈ zs ++ [x], PyData.strOk z = true := fun z hz => by
  rcases List.mem_append.mp hz with hz | hz
  · exact h z hz
  · rw [List.mem_singleton.mp hz]
    exact k
theorem rsnL_ok {k : Bool} {ss : List St3} (h : Ok3 ss) : ∀ z ∈ rsnL k ss, PyData.strOk z = true := by
  cases k with
  | false => exact steps_ok h
  | true => exact snoc_ok (steps_ok h) (by decide +kernel)
theorem fut_ok {f : List PySem.Str} (h : OkF f) : PyData.strOk (futL f) = true := by
  unfold futL
  rw [TL.join_eq]
  refine sOk_join (by decide +kernel) fun z hz => ?_
  rcases List.mem_cons.mp hz with rfl | hz
  · decide +kernel
  · exact (h.1 z hz).1
theorem lines_ok : ∀ {x : Ob}, OkO x → ∀ z ∈ linesOf x, PyData.strOk z = true
  | .chain _, h => steps_ok h
  | .ring _, h => snoc_ok (steps_ok h) (by decide +kernel)
  | .thr _ _, h => snoc_ok (steps_ok h.1) (named_ok (by decide +kernel) h.2)
  | .can f, h => fun z hz => by
    rw [List.mem_singleton.mp hz]
    exact fut_ok h
  | .stp f n, h => fun z hz => by
    have hz : z ∈ [futL f, named "stopper " n] := hz
    simp only [List.mem_cons, List.not_mem_nil, or_false] at hz
    rcases hz with rfl | rfl
    · exact fut_ok h.1
    · exact named_ok (by decide +kernel) h.2
  | .cant k ss, h => fun z hz => by
    rcases List.mem_cons.mp hz with rfl | hz
    · decide +kernel
    · exact rsnL_ok h z hz
  | .alw rs, h => fun z hz => by
    rcases List.mem_cons.mp hz with rfl | hz
    · decide +kernel
    · obtain ⟨l, hl, hz⟩ := List.mem_flatten.mp hz
      obtain ⟨r, hr, rfl⟩ := List.mem_map.mp hl
      obtain ⟨os, o3⟩ := h.1 r hr
      rcases List.mem_cons.mp hz with rfl | hz
      · exact named_ok (by decide +kernel) os
      · exact rsnL_ok o3 z hz
theorem fine_lines {zs : List PySem.Str} (h : ∀ z ∈ zs, PyData.strOk z = true) : Fine 1 (.list (zs.map PyData.str)) := fine_list fun d hd => by
  obtain ⟨z, hz, rfl⟩ := List.mem_map.mp hd
  exact fine_str (h z hz)
theorem steps_thru {H HB : Hp} {p t : Addr} {n : Nat} {ss : List St3} (S : Src H p n) (sB : Same (Nb.del H p) HB) (h : StepsAt H t ss) : StepsAt HB t ss := let ⟨as, e, f⟩ := h; ⟨as, sB _ _ (del_keep e (src_ne S e (by intro xs z; cases z))), f2_imp (fun a s k => sB _ _ (del_keep k (src_ne S k (by intro xs z; cases z)))) f⟩
/-- lists of lines, compared -/
theorem ne_lines {K : PySem.W.Frag} {H : Hp} {x y : V} {d : PyData} {n : Nat} {Q : VK} (h1 : Dp K H x d) (h2 : Dp K H y d) (f : Fine n d) (l : n ≤ 64) (q : Q (.bl false) H) : rNeD K x y H Q :=
  ⟨d, d, h1, h2, f.shaped l, f.shaped l, by rw [PySem.SeqAt.eqv_refl _ f.1]; exact q⟩
theorem eq_lines {K : PySem.W.Frag} {H : Hp} {x y : V} {d : PyData} {n : Nat} {Q : VK} (h1 : Dp K H x d) (h2 : Dp K H y d) (f : Fine n d) (l : n ≤ 64) (q : Q (.bl true) H) : rEqD K x y H Q :=
  ⟨d, d, h1, h2, f.shaped l, f.shaped l, by rw [PySem.SeqAt.eqv_refl _ f.1]; exact q⟩
theorem dp_lines {K : PySem.W.Frag} {H : Hp} {l : Addr} {zs : List PySem.Str} (e : H l = some (.lst (zs.map V.str))) : Dp K H (.ref l) (.list (zs.map PyData.str)) := .lst (SqL.of e) (dps_strs zs)
def spRR (c : Cc) : Sp := fun vs H Q _ => ∃ (p t : Addr) (ss : List St3) (b : Nat), vs = [.ref p, .ref t] ∧ Src H p b ∧ b ≤ 100000 ∧ StepsAt H t ss ∧ Ok3 ss ∧ ∀ H', Same (Nb.del H p) H' → Src H' p (b + 10) → Q (.bl true) H'
/-- what isinstance asks -/
structure Isf (K : PySem.W.Frag) (c : Cc) : Prop where
  ca : ∀ C ∈ c.all, PySem.W.findIn K (.ref C) "__class__" = some (some (.builtin "object.__class__"))
  cm : ∀ C ∈ c.all, PySem.W.mroIn K C (.type "object") = some true
  hn : PySem.W.specialIn K (.builtin "object.__class__") "__get__" = some (some (.builtin "getset_descriptor.__get__"))
  tk : PySem.W.takesIn K (.builtin "object.__class__") = some true
def isfB (K : PySem.W.Frag) (c : Cc) : Bool := (c.all.all fun C => PySem.W.findIn K (.ref C) "__class__" == some (some (.builtin "object.__class__")) && PySem.W.mroIn K C (.type "object") == some true) && (PySem.W.specialIn K (.builtin "object.__class__") "__get__" == some (some (.builtin "getset_descriptor.__get__")) && PySem.W.takesIn K (.builtin "object.__class__") == some true)
theorem isf_of {K : PySem.W.Frag} {c : Cc} (h : isfB K c = true) : Isf K c := by
  unfold isfB at h
  simp only [List.all_eq_true, Bool.and_eq_true, beq_iff_eq] at h
  exact ⟨fun C m => (h.1 C m).1, fun C m => (h.1 C m).2, h.2.1, h.2.2⟩
theorem isi_ty {K : PySem.W.Frag} {c : Cc} (F : Fx K c) (I : Isf K c) {H : Hp} {a C dx : Addr} {fs : List (PySem.Str × V)} (m : C ∈ c.all) (e : H a = some (.ins C dx fs)) : TyX K H (.ref a) (.ref C) := .base (.ins e (F.cl C m) (I.ca C m) I.hn I.tk (I.cm C m))
section
variable {P : Program} {w : World} {K : PySem.W.Frag} {mg : Str → Option Value} {base : Heap}
abbrev s_h_reasons_right : Stmt := topS 23
theorem sc_h_reasons_right : FnScope ["_law_source_here", "_law_steps", "_law_name", "_law_lines", "_law_family"] ["_law_source_here", "_law_steps"] (defScope s_h_reasons_right) := ⟨rfl, rfl, rfl, by decide +kernel, rfl, by decide +kernel, by decide +kernel⟩
theorem ok_h_reasons_right {f : Addr} {fd : FuncData} (F : Fun K "_law_reasons_right" "_law_reasons_right" s_h_reasons_right f fd) {C_Always : Addr} {C_Can : Addr} {C_Cannot : Addr} {C_Chain : Addr} {C_Reason : Addr} {C_Ring : Addr} {C_Stopped : Addr} {C_Through : Addr} (T : Txt mg) (K_Chain : Kl K mg "Chain" C_Chain ["steps"]) (K_Reason : Kl K mg "Reason" C_Reason []) (K_Ring : Kl K mg "Ring" C_Ring ["steps"]) (K_Through : Kl K mg "Through" C_Through ["steps", "name"]) (D_h_pick : Dn P w K mg base CX0 2 "_law_pick" ["_law_source_here", "_law_items"] (spPick)) (D_Chain___init : Mi P w K mg base CX0 1 C_Chain ["self", "steps"] (spInit1 C_Chain "steps")) (D_Ring___init : Mi P w K mg base CX0 1 C_Ring ["self", "steps"] (spInit1 C_Ring "steps")) (D_Through___init : Mi P w K mg base CX0 1 C_Through ["self", "steps", "name"] (spInit2 C_Through "steps" "name")) (D_Chain___eq : Mn P w K mg base CX0 1 C_Chain "__eq__" ["self", "other"] (spEqO (⟨C_Chain, C_Ring, C_Through, C_Can, C_Stopped, C_Cannot, C_Always⟩ : Cc) C_Chain)) (D_Ring___eq : Mn P w K mg base CX0 1 C_Ring "__eq__" ["self", "other"] (spEqO (⟨C_Chain, C_Ring, C_Through, C_Can, C_Stopped, C_Cannot, C_Always⟩ : Cc) C_Ring)) (D_Through___eq : Mn P w K mg base CX0 1 C_Through "__eq__" ["self", "other"] (spEqO (⟨C_Chain, C_Ring, C_Through, C_Can, C_Stopped, C_Cannot, C_Always⟩ : Cc) C_Through)) (D_Chain_show : Mn P w K mg base CX0 2 C_Chain "show" ["self"] (spShow (⟨C_Chain, C_Ring, C_Through, C_Can, C_Stopped, C_Cannot, C_Always⟩ : Cc) C_Chain)) (D_Ring_show : Mn P w K mg base CX0 2 C_Ring "show" ["self"] (spShow (⟨C_Chain, C_Ring, C_Through, C_Can, C_Stopped, C_Cannot, C_Always⟩ : Cc) C_Ring)) (D_Through_show : Mn P w K mg base CX0 2 C_Through "show" ["self"] (spShow (⟨C_Chain, C_Ring, C_Through, C_Can, C_Stopped, C_Cannot, C_Always⟩ : Cc) C_Through)) (D_h_shown : Dn P w K mg base CX0 1 "_law_shown" ["_law_steps"] (spShown)) (FX : Fx K (⟨C_Chain, C_Ring, C_Through, C_Can, C_Stopped, C_Cannot, C_Always⟩ : Cc)) (IS : Isf K (⟨C_Chain, C_Ring, C_Through, C_Can, C_Stopped, C_Cannot, C_Always⟩ : Cc)) (kRC : PySem.W.kitOne K (.ref C_Ring) (.ref C_Chain) = some true) (kTC : PySem.W.kitOne K (.ref C_Through) (.ref C_Chain) = some true) (kCR : PySem.W.kitOne K (.ref C_Chain) (.ref C_Ring) = some false) (kRR : PySem.W.kitOne K (.ref C_Ring) (.ref C_Reason) = some true) : FnOk P w K mg base CX0 6 f fd ["_law_source_here", "_law_steps"] (spRR (⟨C_Chain, C_Ring, C_Through, C_Can, C_Stopped, C_Cannot, C_Always⟩ : Cc)) := by
  refine F.ok sc_h_reasons_right (fun vs H Q E h => ?_) (fun cdv A outer s H vs Q E hr h => ?_)
  · obtain ⟨p, t, ss, b, rfl, _⟩ := h
    rfl
  · obtain ⟨p, t, ss, b, rfl, S, hB, k0, ok, q⟩ := h
    refine ⟨_, pss_cons (ps_set (i := 2) sc_h_reasons_right.nd rfl (Or.inl rfl) (pe_D D_h_pick (hr.mono (by decide)) (by rfl) pass0 (pa_cons (pv 0) (pa_cons (pe_lstS (pa_cons pe_str (pa_cons pe_str pa_nil))) pa_nil))))
        (pss_cons (ps_set (i := 3) sc_h_reasons_right.nd rfl (Or.inl rfl) (pe_D D_h_shown (hr.mono (by decide)) (by rfl) pass0 (pa_cons (pv 1) pa_nil)))
        (pss_cons (ps_if (pt_cmpR (op_neD hr.units) (pe_lstS (pa_cons (pe_M0 D_Chain_show K_Chain.cl (pe_Mi D_Chain___init (hr.mono (by decide)) (by rfl) K_Chain.g pass0 (pa_cons (pv 1) pa_nil)) (hr.mono (by decide)) pass0) (pa_cons (pe_M0 D_Ring_show K_Ring.cl (pe_Mi D_Ring___init (hr.mono (by decide)) (by rfl) K_Ring.g pass0 (pa_cons (pv 1) pa_nil)) (hr.mono (by decide)) pass0) pa_nil))) (pe_lstS (pa_cons (pv 3) (pa_cons (pe_op op_catS (pv 3) (pe_lstS (pa_cons pe_str pa_nil))) pa_nil))) (nomark _)) (pss_one (ps_ret pe_bl)) pss_nil)
        (pss_cons (ps_if (PW.pt (pw_or (pt_cmpR (op_neD hr.units) (pe_M0 D_Through_show K_Through.cl (pe_Mi D_Through___init (hr.mono (by decide)) (by rfl) K_Through.g pass0 (pa_cons (pv 1) (pa_cons (pv 2) pa_nil))) (hr.mono (by decide)) pass0) (pe_op op_catS (pv 3) (pe_lstS (pa_cons (pe_op op_add_str pe_str (pv 2)) pa_nil))) (nomark _)) (pw_or1 (pt_cmpR op_ne (pe_fld (pe_Mi D_Through___init (hr.mono (by decide)) (by rfl) K_Through.g pass0 (pa_cons (pv 1) (pa_cons (pv 2) pa_nil))) rfl) (pv 2) (nomark _))))) (pss_one (ps_ret pe_bl)) pss_nil)
        (pss_cons (ps_set (i := 4) sc_h_reasons_right.nd rfl (Or.inl rfl) (pe_lstS (pa_cons (pe_callB call_isi (by rfl) T.isinstance (by decide +kernel) (pa_cons (pe_Mi D_Ring___init (hr.mono (by decide)) (by rfl) K_Ring.g pass0 (pa_cons (pv 1) pa_nil)) (pa_cons (pe_glob (v := .ref C_Chain) (by rfl) K_Chain.g rfl) pa_nil))) (pa_cons (pe_callB call_isi (by rfl) T.isinstance (by decide +kernel) (pa_cons (pe_Mi D_Through___init (hr.mono (by decide)) (by rfl) K_Through.g pass0 (pa_cons (pv 1) (pa_cons (pv 2) pa_nil))) (pa_cons (pe_glob (v := .ref C_Chain) (by rfl) K_Chain.g rfl) pa_nil))) (pa_cons (pe_callB call_isi (by rfl) T.isinstance (by decide +kernel) (pa_cons (pe_Mi D_Chain___init (hr.mono (by decide)) (by rfl) K_Chain.g pass0 (pa_cons (pv 1) pa_nil)) (pa_cons (pe_glob (v := .ref C_Ring) (by rfl) K_Ring.g rfl) pa_nil))) pa_nil)))))
        (pss_one (ps_ret (pe_and (pe_cmpR (op_eqD hr.units) (pv 4) (pe_lstS (pa_cons pe_bl (pa_cons pe_bl (pa_cons pe_bl pa_nil)))) (nomark _)) (pe_and (pe_callB call_isi (by rfl) T.isinstance (by decide +kernel) (pa_cons (pe_Mi D_Ring___init (hr.mono (by decide)) (by rfl) K_Ring.g pass0 (pa_cons (pv 1) pa_nil)) (pa_cons (pe_glob (v := .ref C_Reason) (by rfl) K_Reason.g rfl) pa_nil))) (pe_one (pe_cmpR (op_neP (n := 3) (sp := spEqO (⟨C_Chain, C_Ring, C_Through, C_Can, C_Stopped, C_Cannot, C_Always⟩ : Cc)) (eqs3 FX) (mem3 (D_Chain___eq.om.up (by decide)) (D_Ring___eq.om.up (by decide)) (D_Through___eq.om.up (by decide))) (hr.mono (by decide)) (hu_of hr) pass0) (pe_Mi D_Chain___init (hr.mono (by decide)) (by rfl) K_Chain.g pass0 (pa_cons (pv 1) pa_nil)) (pe_Mi D_Ring___init (hr.mono (by decide)) (by rfl) K_Ring.g pass0 (pa_cons (pv 1) pa_nil)) (nomark _))))))))))), ?_⟩
    refine ⟨_, rfl, (by show 2 ≤ 100000; decide), fun Ha la sa na ea => ?_⟩
    refine ⟨p, la, _, b, Nb.del Ha p, rfl, del_keep ea (src_away S na), (by show 1 ≤ 2; decide), (by show 2 ≤ 1000; decide), S.same sa, by omega, del_at, del_same, fun H1 z hz s1 S1 => ?_⟩
    obtain ⟨nm, rfl, on⟩ : ∃ c, z = .str c ∧ OkS c := by
      simp only [List.mem_cons, List.not_mem_nil, or_false] at hz
      rcases hz with rfl | rfl <;> exact ⟨_, rfl, by decide +kernel, by decide⟩
    have k1 := steps_thru (S.same sa) s1 (steps_same sa k0)
    refine ⟨_, rfl, t, ss, rfl, k1, ok, fun Y l0 y1 ny ey => ?_⟩
    have ks := steps_same y1 k1
    refine ⟨_, rfl, fun r1 d1 n1 m1 _ => ⟨r1, d1, V.ref t, rfl, upd_same, rfl, ?_⟩⟩
    have z1 : Same Y (upd (upd (upd Y d1 (HO.own r1)) r1 (HO.ins C_Chain d1 [])) r1 (HO.ins C_Chain d1 [("steps", V.ref t)])) := mkS1 n1 m1
    have e1 : (upd (upd (upd Y d1 (HO.own r1)) r1 (HO.ins C_Chain d1 [])) r1 (HO.ins C_Chain d1 [("steps", V.ref t)])) r1 = some (.ins C_Chain d1 [("steps", V.ref t)]) := upd_same
    generalize upd (upd (upd Y d1 (HO.own r1)) r1 (HO.ins C_Chain d1 [])) r1 (HO.ins C_Chain d1 [("steps", V.ref t)]) = Z1 at z1 e1 ⊢
    refine ⟨r1, d1, _, rfl, ((Same.refl _) _ _ e1), rfl, r1, .chain ss, rfl, rfl, ⟨_, _, ((Same.refl _) _ _ e1), (steps_same z1 ks)⟩, ok, fun Z2 r2 z2 n2 e2 => ?_⟩
    refine ⟨_, rfl, fun r3 d3 n3 m3 _ => ⟨r3, d3, V.ref t, rfl, upd_same, rfl, ?_⟩⟩
    have z3 : Same Z2 (upd (upd (upd Z2 d3 (HO.own r3)) r3 (HO.ins C_Ring d3 [])) r3 (HO.ins C_Ring d3 [("steps", V.ref t)])) := mkS1 n3 m3
    have e3 : (upd (upd (upd Z2 d3 (HO.own r3)) r3 (HO.ins C_Ring d3 [])) r3 (HO.ins C_Ring d3 [("steps", V.ref t)])) r3 = some (.ins C_Ring d3 [("steps", V.ref t)]) := upd_same
    generalize upd (upd (upd Z2 d3 (HO.own r3)) r3 (HO.ins C_Ring d3 [])) r3 (HO.ins C_Ring d3 [("steps", V.ref t)]) = Z3 at z3 e3 ⊢
    refine ⟨r3, d3, _, rfl, ((Same.refl _) _ _ e3), rfl, r3, .ring ss, rfl, rfl, ⟨_, _, ((Same.refl _) _ _ e3), (steps_same (z1.trans (z2.trans z3)) ks)⟩, ok, fun Z4 r4 z4 n4 e4 => ?_⟩
    refine ⟨(by show 2 ≤ 100000; decide), fun Z5 r5 z5 n5 e5 => ?_⟩
    refine ⟨_, rfl, _, rfl, (by show 1 ≤ 100000; decide), fun Z6 r6 z6 n6 e6 => ?_⟩
    refine ⟨l0, r6, _, _, rfl, rfl, (z1.trans (z2.trans (z3.trans (z4.trans (z5.trans z6))))) _ _ ey, e6, ?_, fun Z7 r7 z7 n7 e7 => ?_⟩
    · have := ok.2
      rw [List.length_map, List.length_map]
      show ss.length + 1 ≤ 100000
      omega
    refine ⟨(by show 2 ≤ 100000; decide), fun Z8 r8 z8 n8 e8 => ?_⟩
    have f1 : Fine 2 (.list [.list ((ss.map stepL).map PyData.str), .list ((ss.map stepL ++ [("ring" : PySem.Str)]).map PyData.str)]) := fine_list (by
      intro d hd
      simp only [List.mem_cons, List.not_mem_nil, or_false] at hd
      rcases hd with rfl | rfl
      · exact fine_lines (steps_ok ok)
      · exact fine_lines (snoc_ok (steps_ok ok) (by decide +kernel)))
    refine ne_lines (.lst (SqL.of ((z6.trans (z7.trans z8)) _ _ e5)) (.cons (dp_lines ((z3.trans (z4.trans (z5.trans (z6.trans (z7.trans z8))))) _ _ e2)) (.cons (dp_lines ((z5.trans (z6.trans (z7.trans z8))) _ _ e4)) .nil))) (.lst (SqL.of e8) (.cons (dp_lines ((z1.trans (z2.trans (z3.trans (z4.trans (z5.trans (z6.trans (z7.trans z8))))))) _ _ ey)) (.cons (dp_lines (lst_app (ys := [("ring" : PySem.Str)]) (z8 _ _ e7))) .nil))) f1 (by decide) ⟨_, rfl, iteF ?_⟩
    refine ⟨_, rfl, _, rfl, fun r9 d9 n9 m9 _ => ⟨r9, d9, V.ref t, V.str nm, rfl, upd_same, rfl, ?_⟩⟩
    have z9 : Same Z8 (upd (upd (upd (upd Z8 d9 (HO.own r9)) r9 (HO.ins C_Through d9 [])) r9 (HO.ins C_Through d9 [("steps", V.ref t)])) r9 (HO.ins C_Through d9 [("steps", V.ref t), ("name", V.str nm)])) := mkS2 n9 m9
    have e9 : (upd (upd (upd (upd Z8 d9 (HO.own r9)) r9 (HO.ins C_Through d9 [])) r9 (HO.ins C_Through d9 [("steps", V.ref t)])) r9 (HO.ins C_Through d9 [("steps", V.ref t), ("name", V.str nm)])) r9 = some (.ins C_Through d9 [("steps", V.ref t), ("name", V.str nm)]) := upd_same
    generalize upd (upd (upd (upd Z8 d9 (HO.own r9)) r9 (HO.ins C_Through d9 [])) r9 (HO.ins C_Through d9 [("steps", V.ref t)])) r9 (HO.ins C_Through d9 [("steps", V.ref t), ("name", V.str nm)]) = Z9 at z9 e9 ⊢
    refine ⟨r9, d9, _, rfl, ((Same.refl _) _ _ e9), rfl, r9, .thr ss nm, rfl, rfl, ⟨_, _, ((Same.refl _) _ _ e9), (steps_same (z1.trans (z2.trans (z3.trans (z4.trans (z5.trans (z6.trans (z7.trans (z8.trans z9)))))))) ks)⟩, ⟨ok, on⟩, fun Z10 r10 z10 n10 e10 => ?_⟩
    have bp : ("passes " : PySem.Str).length = 7 := by decide
    have on2 := on.2
    refine ⟨_, rfl, _, rfl, _, _, rfl, rfl, line100 (by omega), (by show 1 ≤ 100000; decide), fun Z11 r11 z11 n11 e11 => ?_⟩
    refine ⟨l0, r11, _, _, rfl, rfl, (z1.trans (z2.trans (z3.trans (z4.trans (z5.trans (z6.trans (z7.trans (z8.trans (z9.trans (z10.trans z11)))))))))) _ _ ey, e11, ?_, fun Z12 r12 z12 n12 e12 => ?_⟩
    · have := ok.2
      rw [List.length_map, List.length_map]
      show ss.length + 1 ≤ 100000
      omega
    rw [named_eq] at e12
    refine ne_lines (dp_lines ((z11.trans z12) _ _ e10)) (dp_lines (lst_app (ys := [named "passes " nm]) e12)) (fine_lines (snoc_ok (steps_ok ok) (named_ok (by decide +kernel) on))) (by decide) ⟨_, rfl, iteF ?_⟩
    refine ⟨_, rfl, _, rfl, fun r13 d13 n13 m13 _ => ⟨r13, d13, V.ref t, V.str nm, rfl, upd_same, rfl, ?_⟩⟩
    have z13 : Same Z12 (upd (upd (upd (upd Z12 d13 (HO.own r13)) r13 (HO.ins C_Through d13 [])) r13 (HO.ins C_Through d13 [("steps", V.ref t)])) r13 (HO.ins C_Through d13 [("steps", V.ref t), ("name", V.str nm)])) := mkS2 n13 m13
    have e13 : (upd (upd (upd (upd Z12 d13 (HO.own r13)) r13 (HO.ins C_Through d13 [])) r13 (HO.ins C_Through d13 [("steps", V.ref t)])) r13 (HO.ins C_Through d13 [("steps", V.ref t), ("name", V.str nm)])) r13 = some (.ins C_Through d13 [("steps", V.ref t), ("name", V.str nm)]) := upd_same
    generalize upd (upd (upd (upd Z12 d13 (HO.own r13)) r13 (HO.ins C_Through d13 [])) r13 (HO.ins C_Through d13 [("steps", V.ref t)])) r13 (HO.ins C_Through d13 [("steps", V.ref t), ("name", V.str nm)]) = Z13 at z13 e13 ⊢
    refine ⟨r13, C_Through, d13, _, _, rfl, e13, K_Through.cl, K_Through.no "name" (by simp), rfl, _, rfl, rfl, _, rfl, ?_⟩
    refine iteF0 (by simp) ?_
    refine ⟨_, rfl, fun r14 d14 n14 m14 _ => ⟨r14, d14, V.ref t, rfl, upd_same, rfl, ?_⟩⟩
    have z14 : Same Z13 (upd (upd (upd Z13 d14 (HO.own r14)) r14 (HO.ins C_Ring d14 [])) r14 (HO.ins C_Ring d14 [("steps", V.ref t)])) := mkS1 n14 m14
    have e14 : (upd (upd (upd Z13 d14 (HO.own r14)) r14 (HO.ins C_Ring d14 [])) r14 (HO.ins C_Ring d14 [("steps", V.ref t)])) r14 = some (.ins C_Ring d14 [("steps", V.ref t)]) := upd_same
    generalize upd (upd (upd Z13 d14 (HO.own r14)) r14 (HO.ins C_Ring d14 [])) r14 (HO.ins C_Ring d14 [("steps", V.ref t)]) = Z14 at z14 e14 ⊢
    refine ⟨_, _, _, _, _, rfl, .own _, isi_ty FX IS (by simp [Cc.all]) e14, kRC, ?_⟩
    refine ⟨_, rfl, _, rfl, fun r15 d15 n15 m15 _ => ⟨r15, d15, V.ref t, V.str nm, rfl, upd_same, rfl, ?_⟩⟩
    have z15 : Same Z14 (upd (upd (upd (upd Z14 d15 (HO.own r15)) r15 (HO.ins C_Through d15 [])) r15 (HO.ins C_Through d15 [("steps", V.ref t)])) r15 (HO.ins C_Through d15 [("steps", V.ref t), ("name", V.str nm)])) := mkS2 n15 m15
    have e15 : (upd (upd (upd (upd Z14 d15 (HO.own r15)) r15 (HO.ins C_Through d15 [])) r15 (HO.ins C_Through d15 [("steps", V.ref t)])) r15 (HO.ins C_Through d15 [("steps", V.ref t), ("name", V.str nm)])) r15 = some (.ins C_Through d15 [("steps", V.ref t), ("name", V.str nm)]) := upd_same
    generalize upd (upd (upd (upd Z14 d15 (HO.own r15)) r15 (HO.ins C_Through d15 [])) r15 (HO.ins C_Through d15 [("steps", V.ref t)])) r15 (HO.ins C_Through d15 [("steps", V.ref t), ("name", V.str nm)]) = Z15 at z15 e15 ⊢
    refine ⟨_, _, _, _, _, rfl, .own _, isi_ty FX IS (by simp [Cc.all]) e15, kTC, ?_⟩
    refine ⟨_, rfl, fun r16 d16 n16 m16 _ => ⟨r16, d16, V.ref t, rfl, upd_same, rfl, ?_⟩⟩
    have z16 : Same Z15 (upd (upd (upd Z15 d16 (HO.own r16)) r16 (HO.ins C_Chain d16 [])) r16 (HO.ins C_Chain d16 [("steps", V.ref t)])) := mkS1 n16 m16
    have e16 : (upd (upd (upd Z15 d16 (HO.own r16)) r16 (HO.ins C_Chain d16 [])) r16 (HO.ins C_Chain d16 [("steps", V.ref t)])) r16 = some (.ins C_Chain d16 [("steps", V.ref t)]) := upd_same
    generalize upd (upd (upd Z15 d16 (HO.own r16)) r16 (HO.ins C_Chain d16 [])) r16 (HO.ins C_Chain d16 [("steps", V.ref t)]) = Z16 at z16 e16 ⊢
    refine ⟨_, _, _, _, _, rfl, .own _, isi_ty FX IS (by simp [Cc.all]) e16, kCR, ?_⟩
    refine ⟨(by show 3 ≤ 100000; decide), fun Z17 r17 z17 n17 e17 => ?_⟩
    refine ⟨_, rfl, (by show 3 ≤ 100000; decide), fun Z18 r18 z18 n18 e18 => ?_⟩
    refine eq_lines (d := .list [.bool true, .bool true, .bool false]) (n := 1) (.lst (SqL.of (z18 _ _ e17)) (.cons (.bl _) (.cons (.bl _) (.cons (.bl _) .nil)))) (.lst (SqL.of e18) (.cons (.bl _) (.cons (.bl _) (.cons (.bl _) .nil)))) ⟨by decide, by decide⟩ (by decide) ⟨_, rfl, iteT ?_⟩
    refine ⟨_, rfl, fun r19 d19 n19 m19 _ => ⟨r19, d19, V.ref t, rfl, upd_same, rfl, ?_⟩⟩
    have z19 : Same Z18 (upd (upd (upd Z18 d19 (HO.own r19)) r19 (HO.ins C_Ring d19 [])) r19 (HO.ins C_Ring d19 [("steps", V.ref t)])) := mkS1 n19 m19
    have e19 : (upd (upd (upd Z18 d19 (HO.own r19)) r19 (HO.ins C_Ring d19 [])) r19 (HO.ins C_Ring d19 [("steps", V.ref t)])) r19 = some (.ins C_Ring d19 [("steps", V.ref t)]) := upd_same
    generalize upd (upd (upd Z18 d19 (HO.own r19)) r19 (HO.ins C_Ring d19 [])) r19 (HO.ins C_Ring d19 [("steps", V.ref t)]) = Z19 at z19 e19 ⊢
    refine ⟨_, _, _, _, _, rfl, .own _, isi_ty FX IS (by simp [Cc.all]) e19, kRR, _, rfl, iteT ?_⟩
    refine ⟨_, rfl, fun r20 d20 n20 m20 _ => ⟨r20, d20, V.ref t, rfl, upd_same, rfl, ?_⟩⟩
    have z20 : Same Z19 (upd (upd (upd Z19 d20 (HO.own r20)) r20 (HO.ins C_Chain d20 [])) r20 (HO.ins C_Chain d20 [("steps", V.ref t)])) := mkS1 n20 m20
    have e20 : (upd (upd (upd Z19 d20 (HO.own r20)) r20 (HO.ins C_Chain d20 [])) r20 (HO.ins C_Chain d20 [("steps", V.ref t)])) r20 = some (.ins C_Chain d20 [("steps", V.ref t)]) := upd_same
    generalize upd (upd (upd Z19 d20 (HO.own r20)) r20 (HO.ins C_Chain d20 [])) r20 (HO.ins C_Chain d20 [("steps", V.ref t)]) = Z20 at z20 e20 ⊢
    refine ⟨_, rfl, fun r21 d21 n21 m21 _ => ⟨r21, d21, V.ref t, rfl, upd_same, rfl, ?_⟩⟩
    have z21 : Same Z20 (upd (upd (upd Z20 d21 (HO.own r21)) r21 (HO.ins C_Ring d21 [])) r21 (HO.ins C_Ring d21 [("steps", V.ref t)])) := mkS1 n21 m21
    have e21 : (upd (upd (upd Z20 d21 (HO.own r21)) r21 (HO.ins C_Ring d21 [])) r21 (HO.ins C_Ring d21 [("steps", V.ref t)])) r21 = some (.ins C_Ring d21 [("steps", V.ref t)]) := upd_same
    generalize upd (upd (upd Z20 d21 (HO.own r21)) r21 (HO.ins C_Ring d21 [])) r21 (HO.ins C_Ring d21 [("steps", V.ref t)]) = Z21 at z21 e21 ⊢
    refine ⟨r20, r21, C_Chain, d20, _, C_Ring, d21, _, rfl, rfl, by simp, by simp, (z21 _ _ e20), ((Same.refl _) _ _ e21), ?_, ?_⟩
    · refine ⟨r20, r21, .chain ss, .ring ss, rfl, rfl, ⟨_, _, (z21 _ _ e20), (steps_same (z1.trans (z2.trans (z3.trans (z4.trans (z5.trans (z6.trans (z7.trans (z8.trans (z9.trans (z10.trans (z11.trans (z12.trans (z13.trans (z14.trans (z15.trans (z16.trans (z17.trans (z18.trans (z19.trans (z20.trans z21)))))))))))))))))))) ks)⟩, ⟨_, _, ((Same.refl _) _ _ e21), (steps_same (z1.trans (z2.trans (z3.trans (z4.trans (z5.trans (z6.trans (z7.trans (z8.trans (z9.trans (z10.trans (z11.trans (z12.trans (z13.trans (z14.trans (z15.trans (z16.trans (z17.trans (z18.trans (z19.trans (z20.trans z21)))))))))))))))))))) ks)⟩, ok, ok, trivial, fun H9 s => ⟨_, rfl, _, rfl, ?_⟩⟩
      rw [decide_eq_false (by simp)]
      exact q _ ((same_del (del_same.trans sa) del_at).trans (s1.trans (y1.trans (z1.trans (z2.trans (z3.trans (z4.trans (z5.trans (z6.trans (z7.trans (z8.trans (z9.trans (z10.trans (z11.trans (z12.trans (z13.trans (z14.trans (z15.trans (z16.trans (z17.trans (z18.trans (z19.trans (z20.trans z21)))))))))))))))))))))) |>.trans s) (((S1.same y1).same (z1.trans (z2.trans (z3.trans (z4.trans (z5.trans (z6.trans (z7.trans (z8.trans (z9.trans (z10.trans (z11.trans (z12.trans (z13.trans (z14.trans (z15.trans (z16.trans (z17.trans (z18.trans (z19.trans (z20.trans z21))))))))))))))))))))).same s |>.mono (by omega))
    · refine ⟨r21, r20, .ring ss, .chain ss, rfl, rfl, ⟨_, _, ((Same.refl _) _ _ e21), (steps_same (z1.trans (z2.trans (z3.trans (z4.trans (z5.trans (z6.trans (z7.trans (z8.trans (z9.trans (z10.trans (z11.trans (z12.trans (z13.trans (z14.trans (z15.trans (z16.trans (z17.trans (z18.trans (z19.trans (z20.trans z21)))))))))))))))))))) ks)⟩, ⟨_, _, (z21 _ _ e20), (steps_same (z1.trans (z2.trans (z3.trans (z4.trans (z5.trans (z6.trans (z7.trans (z8.trans (z9.trans (z10.trans (z11.trans (z12.trans (z13.trans (z14.trans (z15.trans (z16.trans (z17.trans (z18.trans (z19.trans (z20.trans z21)))))))))))))))))))) ks)⟩, ok, ok, trivial, fun H9 s => ⟨_, rfl, _, rfl, ?_⟩⟩
      rw [decide_eq_false (by simp)]
      exact q _ ((same_del (del_same.trans sa) del_at).trans (s1.trans (y1.trans (z1.trans (z2.trans (z3.trans (z4.trans (z5.trans (z6.trans (z7.trans (z8.trans (z9.trans (z10.trans (z11.trans (z12.trans (z13.trans (z14.trans (z15.trans (z16.trans (z17.trans (z18.trans (z19.trans (z20.trans z21)))))))))))))))))))))) |>.trans s) (((S1.same y1).same (z1.trans (z2.trans (z3.trans (z4.trans (z5.trans (z6.trans (z7.trans (z8.trans (z9.trans (z10.trans (z11.trans (z12.trans (z13.trans (z14.trans (z15.trans (z16.trans (z17.trans (z18.trans (z19.trans (z20.trans z21))))))))))))))))))))).same s |>.mono (by omega))
end
end K22

set_option Elab.async false
set_option linter.all false
set_option maxRecDepth 100000
set_option maxHeartbeats 4000000
namespace K22
open PySem Nb
open L2 hiding del del_ne del_same
theorem call_isiN {X : Cx} {K : PySem.W.Frag} (hK : X.K = K) : CallR X (.builtin "isinstance") (rIsi K) := by
  subst hK
  exact call_isi
def obs5 (fu : List PySem.Str) (ss : List St3) : List Ob := [.can fu, .stp fu "b", .cant true ss, .alw [("zz", true, ss), ("b", false, ss)], .alw []]
theorem ok5 {fu : List PySem.Str} {ss : List St3} (hf : OkF fu) (h : Ok3 ss) : ∀ o ∈ obs5 fu ss, OkO o := fun o ho => by
  have so : OkS "b" := ⟨by decide +kernel, by decide⟩
  have sz : OkS "zz" := ⟨by decide +kernel, by decide⟩
  simp only [obs5, List.mem_cons, List.not_mem_nil, or_false] at ho
  rcases ho with rfl | rfl | rfl | rfl | rfl
  · exact hf
  · exact ⟨hf, so⟩
  · exact h
  · refine ⟨fun r hr => ?_, by show 2 ≤ 10; decide⟩
    simp only [List.mem_cons, List.not_mem_nil, or_false] at hr
    rcases hr with rfl | rfl
    · exact ⟨sz, h⟩
    · exact ⟨so, h⟩
  · exact ⟨(fun r hr => nomatch hr), by decide⟩
theorem due_lines (ss : List St3) : (["always", "stopper zz"] : List PySem.Str) ++ ss.map stepL ++ (["ring", "stopper b"] : List PySem.Str) ++ ss.map stepL = linesOf (.alw [("zz", true, ss), ("b", false, ss)]) := by
  have e1 : named "stopper " "zz" = "stopper zz" := by decide +kernel
  have e2 : named "stopper " "b" = "stopper b" := by decide +kernel
  simp [linesOf, rsnL, e1, e2]
section
variable {J : It} {n : Nat} {G : Hp → Prop} {Y : Nat → Hp → V → Hp → Prop} {g : TG} {te : TE} {vs : List Nat} {σ : L2.St} {H1 : Hp} {D : Addr} {Qd : Hp → Prop}
theorem lcRM (w : Walk J n G Y) (R : Nat → V → Hp → Prop) (hR : ∀ i y H H', Same H H' → R i y H → R i y H') (hn : n ≤ 100000) (hD : H1 D = none) (hG : ∀ H, Same H1 H → G H)
    (hs : ∀ i x H H' (Nx : VK), i < n → Same H1 H → H D ≠ none → Y i H x H' → (∀ y H4, Same H H4 → R i y (Nb.del H4 D) → Nx y H4) → g x (wipe σ vs) H' fun σ2 H2 => wipe σ2 vs = wipe σ vs ∧ te σ2 H2 Nx)
    (hd : ∀ H ys, Same H1 H → H D = some (.lst ys) → F2 (fun i y => R i y H) (List.range n) ys → Qd H) : LcGoal J g tYes te vs σ H1 D Qd :=
  lcR w (fun _ => true) R hR hn hD hG (fun i x H H' Nx Nf hi s ne y k1 k2 => hs i x H H' Nx hi s ne y (k1 rfl)) fun H ys s e f => hd H ys s e (by rwa [List.filter_eq_self.mpr fun _ _ => rfl] at f)
end
theorem f2_part {c : Cc} {H : Hp} {a1 a2 a3 a4 a5 : Addr} {x1 x2 x3 x4 x5 : Ob} : F2 (ObAt c H) [a1, a2, a3, a4, a5] [x1, x2, x3, x4, x5] → F2 (ObAt c H) [a1, a2] [x1, x2] ∧ F2 (ObAt c H) [a3, a4, a5] [x3, x4, x5]
  | .cons h1 (.cons h2 (.cons h3 (.cons h4 (.cons h5 .nil)))) => ⟨.cons h1 (.cons h2 .nil), .cons h3 (.cons h4 (.cons h5 .nil))⟩
theorem f2_nth {α β : Type} {R : α → β → Prop} {xs : List α} {ys : List β} (h : F2 R xs ys) {i : Nat} {x : α} {y : β} (ex : xs[i]? = some x) (ey : ys[i]? = some y) : R x y := by
  obtain ⟨z, ez, r⟩ := f2_getl h ex
  rw [ey] at ez
  cases ez
  exact r
/-- lists of lines, in a list -/
def Lns (H : Hp) (o : Ob) (y : V) : Prop := ∃ l, y = .ref l ∧ H l = some (.lst ((linesOf o).map V.str))
theorem lns_dp {K : PySem.W.Frag} {H : Hp} : ∀ {os : List Ob} {ys : List V}, F2 (Lns H) os ys → DpAll K H ys (os.map fun o => PyData.list ((linesOf o).map PyData.str))
  | _, _, .nil => .nil
  | _, _, .cons ⟨l, e, k⟩ f => e ▸ .cons (dp_lines k) (lns_dp f)
theorem fine_shown {os : List Ob} (h : ∀ o ∈ os, OkO o) : Fine 2 (.list (os.map fun o => PyData.list ((linesOf o).map PyData.str))) := fine_list fun d hd => by
  obtain ⟨o, ho, rfl⟩ := List.mem_map.mp hd
  exact fine_lines (lines_ok (h o ho))
theorem f2_of {α β : Type} {R : α → β → Prop} : ∀ {xs : List α} {ys : List β}, xs.length = ys.length → (∀ (i : Nat) x y, xs[i]? = some x → ys[i]? = some y → R x y) → F2 R xs ys
  | [], [], _, _ => .nil
  | [], _ :: _, h, _ => nomatch h
  | _ :: _, [], h, _ => nomatch h
  | x :: xs, y :: ys, h, k => .cons (k 0 x y rfl rfl) (f2_of (by simpa using h) fun i a b e1 e2 => k (i + 1) a b e1 e2)
theorem f2_range {α : Type} {R : α → V → Prop} {os : List α} {ys : List V} (h : F2 (fun i y => ∀ o, os[i]? = some o → R o y) (List.range os.length) ys) : F2 R os ys := by
  have l := f2_len h
  rw [List.length_range] at l
  refine f2_of l fun i x y e1 e2 => ?_
  have hi : i < os.length := (List.getElem?_eq_some_iff.mp e1).1
  exact f2_nth h (List.getElem?_range hi) e2 x e1

theorem mem7 {a b c d e f g : Addr} {p : Addr → Prop} (h1 : p a) (h2 : p b) (h3 : p c) (h4 : p d) (h5 : p e) (h6 : p f) (h7 : p g) : ∀ x ∈ [a, b, c, d, e, f, g], p x := fun x h => by
  simp only [List.mem_cons, List.not_mem_nil, or_false] at h
  rcases h with rfl | rfl | rfl | rfl | rfl | rfl | rfl <;> assumption
theorem mem4 {a b c d : Addr} {p : Addr → Prop} (h1 : p a) (h2 : p b) (h3 : p c) (h4 : p d) : ∀ x ∈ [a, b, c, d], p x := fun x h => by
  simp only [List.mem_cons, List.not_mem_nil, or_false] at h
  rcases h with rfl | rfl | rfl | rfl <;> assumption
section
variable {P : Program} {w : World} {K : PySem.W.Frag} {mg : Str → Option Value} {base : Heap}
abbrev s_h_answers_right : Stmt := topS 24
theorem sc_h_answers_right : FnScope ["_law_source_here", "_law_steps", "_law_future", "_law_head", "_law_pairs", "_law_due", "_law_some", "_law_one", "_law_name"] ["_law_source_here", "_law_steps"] (defScope s_h_answers_right) := ⟨rfl, rfl, rfl, by decide +kernel, rfl, by decide +kernel, by decide +kernel⟩
def sx_h_answers_right_0 : Scope := { kind := .function, names := [(".0", .local), ("_law_name", .local)], isGenerator := false, isCoroutine := false, more := [] }
def sx_h_answers_right_1 : Scope := { kind := .function, names := [(".0", .local), ("_law_one", .local)], isGenerator := false, isCoroutine := false, more := [] }
def sx_h_answers_right_2 : Scope := { kind := .function, names := [(".0", .local), ("_law_one", .local)], isGenerator := false, isCoroutine := false, more := [] }
def sx_h_answers_right_3 : Scope := { kind := .function, names := [(".0", .local), ("_law_one", .local), ("isinstance", .globalImplicit), ("Can", .globalImplicit)], isGenerator := false, isCoroutine := false, more := [] }
def sx_h_answers_right_4 : Scope := { kind := .function, names := [(".0", .local), ("_law_one", .local), ("bool", .globalImplicit)], isGenerator := false, isCoroutine := false, more := [] }
theorem ok_h_answers_right {f : Addr} {fd : FuncData} (F : Fun K "_law_answers_right" "_law_answers_right" s_h_answers_right f fd) {C_Always : Addr} {C_Answer : Addr} {C_Can : Addr} {C_Cannot : Addr} {C_Chain : Addr} {C_Ring : Addr} {C_Stopped : Addr} {C_Through : Addr} (T : Txt mg) (K_Always : Kl K mg "Always" C_Always ["reasons"]) (K_Answer : Kl K mg "Answer" C_Answer []) (K_Can : Kl K mg "Can" C_Can ["future"]) (K_Cannot : Kl K mg "Cannot" C_Cannot ["reason"]) (K_Chain : Kl K mg "Chain" C_Chain ["steps"]) (K_Ring : Kl K mg "Ring" C_Ring ["steps"]) (K_Stopped : Kl K mg "Stopped" C_Stopped ["future", "name"]) (D_h_next : Dn P w K mg base CX0 1 "_law_next" ["_law_source_here", "_law_many"] (spNext)) (D_h_mixed : Dn P w K mg base CX0 2 "_law_mixed" ["_law_source_here", "_law_items"] (spMixed)) (D_Chain___init : Mi P w K mg base CX0 1 C_Chain ["self", "steps"] (spInit1 C_Chain "steps")) (D_Ring___init : Mi P w K mg base CX0 1 C_Ring ["self", "steps"] (spInit1 C_Ring "steps")) (D_Can___init : Mi P w K mg base CX0 1 C_Can ["self", "future"] (spInit1 C_Can "future")) (D_Stopped___init : Mi P w K mg base CX0 1 C_Stopped ["self", "future", "name"] (spInit2 C_Stopped "future" "name")) (D_Cannot___init : Mi P w K mg base CX0 1 C_Cannot ["self", "reason"] (spInit1 C_Cannot "reason")) (D_Always___init : Mi P w K mg base CX0 1 C_Always ["self", "reasons"] (spInit1 C_Always "reasons")) (D_Can___bool : Mn P w K mg base CX0 1 C_Can "__bool__" ["self"] (spBool (⟨C_Chain, C_Ring, C_Through, C_Can, C_Stopped, C_Cannot, C_Always⟩ : Cc) C_Can)) (D_Stopped___bool : Mn P w K mg base CX0 1 C_Stopped "__bool__" ["self"] (spBool (⟨C_Chain, C_Ring, C_Through, C_Can, C_Stopped, C_Cannot, C_Always⟩ : Cc) C_Stopped)) (D_Cannot___bool : Mn P w K mg base CX0 1 C_Cannot "__bool__" ["self"] (spBool (⟨C_Chain, C_Ring, C_Through, C_Can, C_Stopped, C_Cannot, C_Always⟩ : Cc) C_Cannot)) (D_Always___bool : Mn P w K mg base CX0 1 C_Always "__bool__" ["self"] (spBool (⟨C_Chain, C_Ring, C_Through, C_Can, C_Stopped, C_Cannot, C_Always⟩ : Cc) C_Always)) (D_Chain_show : Mn P w K mg base CX0 2 C_Chain "show" ["self"] (spShow (⟨C_Chain, C_Ring, C_Through, C_Can, C_Stopped, C_Cannot, C_Always⟩ : Cc) C_Chain)) (D_Ring_show : Mn P w K mg base CX0 2 C_Ring "show" ["self"] (spShow (⟨C_Chain, C_Ring, C_Through, C_Can, C_Stopped, C_Cannot, C_Always⟩ : Cc) C_Ring)) (D_Through_show : Mn P w K mg base CX0 2 C_Through "show" ["self"] (spShow (⟨C_Chain, C_Ring, C_Through, C_Can, C_Stopped, C_Cannot, C_Always⟩ : Cc) C_Through)) (D_Can_show : Mn P w K mg base CX0 2 C_Can "show" ["self"] (spShow (⟨C_Chain, C_Ring, C_Through, C_Can, C_Stopped, C_Cannot, C_Always⟩ : Cc) C_Can)) (D_Stopped_show : Mn P w K mg base CX0 2 C_Stopped "show" ["self"] (spShow (⟨C_Chain, C_Ring, C_Through, C_Can, C_Stopped, C_Cannot, C_Always⟩ : Cc) C_Stopped)) (D_Cannot_show : Mn P w K mg base CX0 3 C_Cannot "show" ["self"] (spShow (⟨C_Chain, C_Ring, C_Through, C_Can, C_Stopped, C_Cannot, C_Always⟩ : Cc) C_Cannot)) (D_Always_show : Mn P w K mg base CX0 3 C_Always "show" ["self"] (spShow (⟨C_Chain, C_Ring, C_Through, C_Can, C_Stopped, C_Cannot, C_Always⟩ : Cc) C_Always)) (D_h_shown : Dn P w K mg base CX0 1 "_law_shown" ["_law_steps"] (spShown)) (FX : Fx K (⟨C_Chain, C_Ring, C_Through, C_Can, C_Stopped, C_Cannot, C_Always⟩ : Cc)) (IS : Isf K (⟨C_Chain, C_Ring, C_Through, C_Can, C_Stopped, C_Cannot, C_Always⟩ : Cc)) (kAC : ∀ C ∈ [C_Can, C_Stopped], PySem.W.kitOne K (.ref C) (.ref C_Can) = some true) (kNC : ∀ C ∈ [C_Cannot, C_Always], PySem.W.kitOne K (.ref C) (.ref C_Can) = some false) (kCA : PySem.W.kitOne K (.ref C_Cannot) (.ref C_Answer) = some true) : FnOk P w K mg base CX0 8 f fd ["_law_source_here", "_law_steps"] (spRR (⟨C_Chain, C_Ring, C_Through, C_Can, C_Stopped, C_Cannot, C_Always⟩ : Cc)) := by
  refine F.ok sc_h_answers_right (fun vs H Q E h => ?_) (fun cdv A outer s H vs Q E hr h => ?_)
  · obtain ⟨p, t, ss, b, rfl, _⟩ := h
    rfl
  · obtain ⟨p, t, ss, b, rfl, S, hB, ks0, ok, q⟩ := h
    refine ⟨_, pss_cons (ps_set (i := 2) sc_h_answers_right.nd rfl (Or.inl rfl) (pe_callTy cr_tupleS (by rfl) T.tuple (by decide +kernel) (pa_cons (pe_slice sl_list (pe_D D_h_mixed (hr.mono (by decide)) (by rfl) pass0 (pa_cons (pv 0) (pa_cons (pe_lstS (pa_cons pe_str (pa_cons pe_str (pa_cons pe_str pa_nil)))) pa_nil))) po_none (po_some (pe_D D_h_next (hr.mono (by decide)) (by rfl) pass0 (pa_cons (pv 0) (pa_cons pe_int pa_nil))))) pa_nil)))
        (pss_cons (ps_par (i := 3) (j := 4) rfl sc_h_answers_right.nd rfl rfl (by decide) rfl rfl (pa_cons (pe_join pe_str (pe_op op_catS (pe_lstS (pa_cons pe_str pa_nil)) (pe_lc (own := [("_law_name", 8)]) (g := gName 8) (tt := tYes) rfl sc_h_answers_right.nd (pi_tup (pv 2)) (blkOk_by (N := ["_law_source_here", "_law_steps", "_law_future", "_law_head", "_law_pairs", "_law_due", "_law_some", "_law_one", "_law_name"]) (sc := (defScope s_h_answers_right)) (by decide +kernel)) (fun _ _ _ _ _ => (pg_name (i := 8) sc_h_answers_right.nd rfl (Or.inl rfl))) (fun _ _ _ _ _ => pts_nil) (fun _ _ _ _ _ => (pe_op op_add_str pe_str (pv 8)))))) (pa_cons (pe_tupS (pa_cons (pe_tupS (pa_cons pe_str (pa_cons (pe_Mi D_Ring___init (hr.mono (by decide)) (by rfl) K_Ring.g pass0 (pa_cons (pv 1) pa_nil)) pa_nil))) (pa_cons (pe_tupS (pa_cons pe_str (pa_cons (pe_Mi D_Chain___init (hr.mono (by decide)) (by rfl) K_Chain.g pass0 (pa_cons (pv 1) pa_nil)) pa_nil))) pa_nil))) pa_nil)) rfl)
        (pss_cons (ps_set (i := 5) sc_h_answers_right.nd rfl (Or.inl rfl) (pe_op op_catS (pe_op op_catS (pe_op op_catS (pe_lstS (pa_cons pe_str (pa_cons pe_str pa_nil))) (pe_D D_h_shown (hr.mono (by decide)) (by rfl) pass0 (pa_cons (pv 1) pa_nil))) (pe_lstS (pa_cons pe_str (pa_cons pe_str pa_nil)))) (pe_D D_h_shown (hr.mono (by decide)) (by rfl) pass0 (pa_cons (pv 1) pa_nil))))
        (pss_cons (ps_set (i := 6) sc_h_answers_right.nd rfl (Or.inl rfl) (pe_lstS (pa_cons (pe_Mi D_Can___init (hr.mono (by decide)) (by rfl) K_Can.g pass0 (pa_cons (pv 2) pa_nil)) (pa_cons (pe_Mi D_Stopped___init (hr.mono (by decide)) (by rfl) K_Stopped.g pass0 (pa_cons (pv 2) (pa_cons pe_str pa_nil))) (pa_cons (pe_Mi D_Cannot___init (hr.mono (by decide)) (by rfl) K_Cannot.g pass0 (pa_cons (pe_Mi D_Ring___init (hr.mono (by decide)) (by rfl) K_Ring.g pass0 (pa_cons (pv 1) pa_nil)) pa_nil)) (pa_cons (pe_Mi D_Always___init (hr.mono (by decide)) (by rfl) K_Always.g pass0 (pa_cons (pv 4) pa_nil)) (pa_cons (pe_Mi D_Always___init (hr.mono (by decide)) (by rfl) K_Always.g pass0 (pa_cons (pe_tupS pa_nil) pa_nil)) pa_nil)))))))
        (pss_cons (ps_if (pt_cmpR (op_neD hr.units) (pe_lc (own := [("_law_one", 7)]) (g := gName 7) (tt := tYes) rfl sc_h_answers_right.nd (pi_list (pe_slice sl_list (pv 6) po_none (po_some pe_int))) (blkOk_by (N := ["_law_source_here", "_law_steps", "_law_future", "_law_head", "_law_pairs", "_law_due", "_law_some", "_law_one", "_law_name"]) (sc := (defScope s_h_answers_right)) (by decide +kernel)) (fun _ _ _ _ _ => (pg_name (i := 7) sc_h_answers_right.nd rfl (Or.inl rfl))) (fun _ _ _ _ _ => pts_nil) (fun _ _ _ _ _ => (pe_MP (n := 5) (sp := spShow (⟨C_Chain, C_Ring, C_Through, C_Can, C_Stopped, C_Cannot, C_Always⟩ : Cc)) (mem7 (D_Chain_show.up (by decide)) (D_Ring_show.up (by decide)) (D_Through_show.up (by decide)) (D_Can_show.up (by decide)) (D_Stopped_show.up (by decide)) (D_Cannot_show.up (by decide)) (D_Always_show.up (by decide))) FX.cl (pv 7) (hr.mono (by decide)) pass0))) (pe_lstS (pa_cons (pe_lstS (pa_cons (pv 3) pa_nil)) (pa_cons (pe_lstS (pa_cons (pv 3) (pa_cons pe_str pa_nil))) pa_nil))) (nomark _)) (pss_one (ps_ret pe_bl)) pss_nil)
        (pss_cons (ps_if (pt_cmpR (op_neD hr.units) (pe_lc (own := [("_law_one", 7)]) (g := gName 7) (tt := tYes) rfl sc_h_answers_right.nd (pi_list (pe_slice sl_list (pv 6) (po_some pe_int) po_none)) (blkOk_by (N := ["_law_source_here", "_law_steps", "_law_future", "_law_head", "_law_pairs", "_law_due", "_law_some", "_law_one", "_law_name"]) (sc := (defScope s_h_answers_right)) (by decide +kernel)) (fun _ _ _ _ _ => (pg_name (i := 7) sc_h_answers_right.nd rfl (Or.inl rfl))) (fun _ _ _ _ _ => pts_nil) (fun _ _ _ _ _ => (pe_MP (n := 5) (sp := spShow (⟨C_Chain, C_Ring, C_Through, C_Can, C_Stopped, C_Cannot, C_Always⟩ : Cc)) (mem7 (D_Chain_show.up (by decide)) (D_Ring_show.up (by decide)) (D_Through_show.up (by decide)) (D_Can_show.up (by decide)) (D_Stopped_show.up (by decide)) (D_Cannot_show.up (by decide)) (D_Always_show.up (by decide))) FX.cl (pv 7) (hr.mono (by decide)) pass0))) (pe_lstS (pa_cons (pe_op op_catS (pe_op op_catS (pe_lstS (pa_cons pe_str pa_nil)) (pe_D D_h_shown (hr.mono (by decide)) (by rfl) pass0 (pa_cons (pv 1) pa_nil))) (pe_lstS (pa_cons pe_str pa_nil))) (pa_cons (pv 5) (pa_cons (pe_lstS (pa_cons pe_str pa_nil)) pa_nil)))) (nomark _)) (pss_one (ps_ret pe_bl)) pss_nil)
        (pss_cons (ps_if (pt_cmpR (op_neD hr.units) (pe_lc (own := [("_law_one", 7)]) (g := gName 7) (tt := tYes) rfl sc_h_answers_right.nd (pi_list (pv 6)) (blkOk_by (N := ["_law_source_here", "_law_steps", "_law_future", "_law_head", "_law_pairs", "_law_due", "_law_some", "_law_one", "_law_name"]) (sc := (defScope s_h_answers_right)) (by decide +kernel)) (fun _ _ _ _ _ => (pg_name (i := 7) sc_h_answers_right.nd rfl (Or.inl rfl))) (fun _ _ _ _ _ => pts_nil) (fun _ _ _ _ _ => (pe_callB (call_isiN (K := K) rfl) (by rfl) T.isinstance (by decide +kernel) (pa_cons (pv 7) (pa_cons (pe_glob (v := .ref C_Can) (by rfl) K_Can.g rfl) pa_nil))))) (pe_lstS (pa_cons pe_bl (pa_cons pe_bl (pa_cons pe_bl (pa_cons pe_bl (pa_cons pe_bl pa_nil)))))) (nomark _)) (pss_one (ps_ret pe_bl)) pss_nil)
        (pss_one (ps_ret (pe_and (pe_cmpR (op_eqD hr.units) (pe_lc (own := [("_law_one", 7)]) (g := gName 7) (tt := tYes) rfl sc_h_answers_right.nd (pi_list (pv 6)) (blkOk_by (N := ["_law_source_here", "_law_steps", "_law_future", "_law_head", "_law_pairs", "_law_due", "_law_some", "_law_one", "_law_name"]) (sc := (defScope s_h_answers_right)) (by decide +kernel)) (fun _ _ _ _ _ => (pg_name (i := 7) sc_h_answers_right.nd rfl (Or.inl rfl))) (fun _ _ _ _ _ => pts_nil) (fun _ _ _ _ _ => (pe_callTy (call_boolO (n := 1) (sp := spBool (⟨C_Chain, C_Ring, C_Through, C_Can, C_Stopped, C_Cannot, C_Always⟩ : Cc)) (mem4 D_Can___bool.om D_Stopped___bool.om D_Cannot___bool.om D_Always___bool.om) (hr.mono (by decide)) pass0) (by rfl) T.bool (by decide +kernel) (pa_cons (pv 7) pa_nil)))) (pe_lstS (pa_cons pe_bl (pa_cons pe_bl (pa_cons pe_bl (pa_cons pe_bl (pa_cons pe_bl pa_nil)))))) (nomark _)) (pe_one (pe_callB (call_isiN (K := K) rfl) (by rfl) T.isinstance (by decide +kernel) (pa_cons (pe_ix ix_list (pv 6) pe_int (fun _ _ => rfl)) (pa_cons (pe_glob (v := .ref C_Answer) (by rfl) K_Answer.g rfl) pa_nil))))))))))))), ?_⟩
    refine ⟨_, rfl, (by show 3 ≤ 100000; decide), fun Ha la sa na ea => ?_⟩
    have nla := src_away S na
    refine ⟨p, la, ["a", "b", "node"], b, Nb.del Ha p, rfl, del_keep ea nla, by decide, (fun z hz => by simp only [List.mem_cons, List.not_mem_nil, or_false] at hz; rcases hz with rfl | rfl | rfl <;> exact ⟨by decide, by decide +kernel⟩), S.same sa, by omega, del_at, del_same, fun Hb lb ys sb nb nbp eb pm Sb => ?_⟩
    refine noPart ⟨_, rfl, p, 4, b + 3, Nb.del Hb p, rfl, by decide, by decide, Sb, by omega, del_at, del_same, fun Hc k k0 k4 sc Sc => ?_⟩
    refine ⟨_, rfl, lb, _, rfl, SqL.of (sc _ _ (del_keep eb nbp)), fun W hW => ?_⟩
    obtain ⟨fu, efu, sub⟩ := cut_strs ys none (some k)
    refine ⟨W, _, rfl, .inl upd_same, fun Y tf sd ed => ?_⟩
    rw [efu] at ed
    have SW : Src Y p (b + 4) := (Sc.same (same_new hW)).same sd
    have fr : Same (Nb.del H p) Y := (fr_step (fr_step (del_same.trans sa) sb) sc).trans ((same_new hW).trans sd)
    have of : OkF fu := by
      have l3 : ys.length = 3 := pm.length_eq
      have l4 := sub.length_le
      refine ⟨fun z hz => ?_, by omega⟩
      have := pm.subset (sub.subset hz)
      simp only [List.mem_cons, List.not_mem_nil, or_false] at this
      rcases this with rfl | rfl | rfl <;> exact ⟨by decide +kernel, by decide⟩
    have ks : StepsAt Y t ss := steps_same ((same_new hW).trans sd) (steps_thru Sb sc (steps_thru (S.same sa) sb (steps_same sa ks0)))
    refine ⟨⟨_, rfl⟩, (by show 1 ≤ 100000; decide), fun Z1 r1 z1 n1 e1 => ?_⟩
    refine ⟨_, rfl, tf, rfl, ⟨_, SqT.of (z1 _ _ ed)⟩, fun D hD => ?_⟩
    have l10 := of.2
    refine lcM (walk_tup (K := K) (a := tf) (xs := fu.map V.str)) (fun i => .str ((" " : PySem.Str) ++ fu.getD i "")) (by rw [List.length_map]; omega) hD (fun H5 s5 => SqT.of (s5 _ _ (z1 _ _ ed))) ?_ ?_
    · rintro i y Hi Hj Nx hi si ⟨rfl, ey⟩ N
      rw [List.getElem?_map] at ey
      obtain ⟨z, ez, rfl⟩ : ∃ z, fu[i]? = some z ∧ y = .str z := by
        cases e : fu[i]? with
        | none => rw [e] at ey; cases ey
        | some z => rw [e] at ey; exact ⟨z, rfl, (Option.some.inj ey).symm⟩
      have e := getD_at ("" : PySem.Str) ez
      rw [e] at N
      have oz := (of.1 z (List.mem_of_getElem? ez)).2
      refine ⟨rfl, _, rfl, _, _, rfl, rfl, line100 (by show 1 + z.length ≤ 100000; omega), N _ (Same.refl _)⟩
    rintro Z2 z2 e2
    have e2 : Z2 D = some (.lst ((fu.map fun z => (" " : PySem.Str) ++ z).map V.str)) := by
      rw [e2, List.length_map, List.map_map]
      exact congrArg (fun z => some (HO.lst z)) (map_range ("" : PySem.Str) (fun z => V.str ((" " : PySem.Str) ++ z)) fu)
    refine ⟨r1, D, _, _, rfl, rfl, z2 _ _ e1, e2, (by rw [List.length_map, List.length_map]; show 1 + fu.length ≤ 100000; omega), fun Z3 r3 z3 n3 e3 => ?_⟩
    refine ⟨"", r3, ("future" : PySem.Str) :: fu.map (fun z => (" " : PySem.Str) ++ z), rfl, rfl, .inl (SqL.of e3), ?_, ?_⟩
    · have h1 := sum_len (l := 11) (n := 101) (zs := ("future" : PySem.Str) :: fu.map (fun z => (" " : PySem.Str) ++ z)) (fun z hz => ?_) (by rw [List.length_cons, List.length_map]; omega)
      · have h2 : (("" : PySem.Str)).length = 0 := by decide
        rw [h2]
        omega
      · rcases List.mem_cons.mp hz with rfl | hz
        · decide
        · obtain ⟨y, hy, rfl⟩ := List.mem_map.mp hz
          have := (of.1 y hy).2
          rw [strLen_append]
          show 1 + y.length ≤ 101
          omega
    rw [futL_eq]
    refine ⟨_, rfl, fun r4 d4 n4 m4 _ => ⟨r4, d4, V.ref t, rfl, upd_same, rfl, ?_⟩⟩
    have z4 : Same Z3 (upd (upd (upd Z3 d4 (HO.own r4)) r4 (HO.ins C_Ring d4 [])) r4 (HO.ins C_Ring d4 [("steps", V.ref t)])) := mkS1 n4 m4
    have e4 : (upd (upd (upd Z3 d4 (HO.own r4)) r4 (HO.ins C_Ring d4 [])) r4 (HO.ins C_Ring d4 [("steps", V.ref t)])) r4 = some (.ins C_Ring d4 [("steps", V.ref t)]) := upd_same
    generalize upd (upd (upd Z3 d4 (HO.own r4)) r4 (HO.ins C_Ring d4 [])) r4 (HO.ins C_Ring d4 [("steps", V.ref t)]) = Z4 at z4 e4 ⊢
    refine ⟨(by show 2 ≤ 100000; decide), fun Z5 r5 z5 n5 e5 => ?_⟩
    refine ⟨_, rfl, fun r6 d6 n6 m6 _ => ⟨r6, d6, V.ref t, rfl, upd_same, rfl, ?_⟩⟩
    have z6 : Same Z5 (upd (upd (upd Z5 d6 (HO.own r6)) r6 (HO.ins C_Chain d6 [])) r6 (HO.ins C_Chain d6 [("steps", V.ref t)])) := mkS1 n6 m6
    have e6 : (upd (upd (upd Z5 d6 (HO.own r6)) r6 (HO.ins C_Chain d6 [])) r6 (HO.ins C_Chain d6 [("steps", V.ref t)])) r6 = some (.ins C_Chain d6 [("steps", V.ref t)]) := upd_same
    generalize upd (upd (upd Z5 d6 (HO.own r6)) r6 (HO.ins C_Chain d6 [])) r6 (HO.ins C_Chain d6 [("steps", V.ref t)]) = Z6 at z6 e6 ⊢
    refine ⟨(by show 2 ≤ 100000; decide), fun Z7 r7 z7 n7 e7 => ?_⟩
    refine ⟨(by show 2 ≤ 100000; decide), fun Z8 r8 z8 n8 e8 => ?_⟩
    refine ⟨_, _, rfl, ?_⟩
    have s10 := ok.2
    refine ⟨(by show 2 ≤ 100000; decide), fun Z9 r9 z9 n9 e9 => ?_⟩
    refine ⟨_, rfl, t, ss, rfl, (steps_same (z1.trans (z2.trans (z3.trans (z4.trans (z5.trans (z6.trans (z7.trans (z8.trans z9)))))))) ks), ok, fun Z10 r10 z10 n10 e10 => ?_⟩
    refine ⟨r9, r10, _, _, rfl, rfl, (z10 _ _ e9), e10, (by simp only [List.length_append, List.length_map, List.length_cons, List.length_nil]; omega), fun Z11 r11 z11 n11 e11 => ?_⟩
    refine ⟨(by show 2 ≤ 100000; decide), fun Z12 r12 z12 n12 e12 => ?_⟩
    refine ⟨r11, r12, _, _, rfl, rfl, (z12 _ _ e11), e12, (by simp only [List.length_append, List.length_map, List.length_cons, List.length_nil]; omega), fun Z13 r13 z13 n13 e13 => ?_⟩
    refine ⟨_, rfl, t, ss, rfl, (steps_same (z1.trans (z2.trans (z3.trans (z4.trans (z5.trans (z6.trans (z7.trans (z8.trans (z9.trans (z10.trans (z11.trans (z12.trans z13)))))))))))) ks), ok, fun Z14 r14 z14 n14 e14 => ?_⟩
    refine ⟨r13, r14, _, _, rfl, rfl, (z14 _ _ e13), e14, (by simp only [List.length_append, List.length_map, List.length_cons, List.length_nil]; omega), fun Z15 r15 z15 n15 e15 => ?_⟩
    have eDue : Z15 r15 = some (.lst ((linesOf (.alw [("zz", true, ss), ("b", false, ss)])).map V.str)) := by
      rw [e15, ← due_lines]
      simp only [List.map_append]
      rfl
    refine ⟨_, rfl, fun r16 d16 n16 m16 _ => ⟨r16, d16, V.ref tf, rfl, upd_same, rfl, ?_⟩⟩
    have z16 : Same Z15 (upd (upd (upd Z15 d16 (HO.own r16)) r16 (HO.ins C_Can d16 [])) r16 (HO.ins C_Can d16 [("future", V.ref tf)])) := mkS1 n16 m16
    have e16 : (upd (upd (upd Z15 d16 (HO.own r16)) r16 (HO.ins C_Can d16 [])) r16 (HO.ins C_Can d16 [("future", V.ref tf)])) r16 = some (.ins C_Can d16 [("future", V.ref tf)]) := upd_same
    generalize upd (upd (upd Z15 d16 (HO.own r16)) r16 (HO.ins C_Can d16 [])) r16 (HO.ins C_Can d16 [("future", V.ref tf)]) = Z16 at z16 e16 ⊢
    refine ⟨_, rfl, fun r17 d17 n17 m17 _ => ⟨r17, d17, V.ref tf, V.str "b", rfl, upd_same, rfl, ?_⟩⟩
    have z17 : Same Z16 (upd (upd (upd (upd Z16 d17 (HO.own r17)) r17 (HO.ins C_Stopped d17 [])) r17 (HO.ins C_Stopped d17 [("future", V.ref tf)])) r17 (HO.ins C_Stopped d17 [("future", V.ref tf), ("name", V.str "b")])) := mkS2 n17 m17
    have e17 : (upd (upd (upd (upd Z16 d17 (HO.own r17)) r17 (HO.ins C_Stopped d17 [])) r17 (HO.ins C_Stopped d17 [("future", V.ref tf)])) r17 (HO.ins C_Stopped d17 [("future", V.ref tf), ("name", V.str "b")])) r17 = some (.ins C_Stopped d17 [("future", V.ref tf), ("name", V.str "b")]) := upd_same
    generalize upd (upd (upd (upd Z16 d17 (HO.own r17)) r17 (HO.ins C_Stopped d17 [])) r17 (HO.ins C_Stopped d17 [("future", V.ref tf)])) r17 (HO.ins C_Stopped d17 [("future", V.ref tf), ("name", V.str "b")]) = Z17 at z17 e17 ⊢
    refine ⟨_, rfl, fun r18 d18 n18 m18 _ => ⟨r18, d18, V.ref t, rfl, upd_same, rfl, ?_⟩⟩
    have z18 : Same Z17 (upd (upd (upd Z17 d18 (HO.own r18)) r18 (HO.ins C_Ring d18 [])) r18 (HO.ins C_Ring d18 [("steps", V.ref t)])) := mkS1 n18 m18
    have e18 : (upd (upd (upd Z17 d18 (HO.own r18)) r18 (HO.ins C_Ring d18 [])) r18 (HO.ins C_Ring d18 [("steps", V.ref t)])) r18 = some (.ins C_Ring d18 [("steps", V.ref t)]) := upd_same
    generalize upd (upd (upd Z17 d18 (HO.own r18)) r18 (HO.ins C_Ring d18 [])) r18 (HO.ins C_Ring d18 [("steps", V.ref t)]) = Z18 at z18 e18 ⊢
    refine fun r19 d19 n19 m19 _ => ⟨r19, d19, V.ref r18, rfl, upd_same, rfl, ?_⟩
    have z19 : Same Z18 (upd (upd (upd Z18 d19 (HO.own r19)) r19 (HO.ins C_Cannot d19 [])) r19 (HO.ins C_Cannot d19 [("reason", V.ref r18)])) := mkS1 n19 m19
    have e19 : (upd (upd (upd Z18 d19 (HO.own r19)) r19 (HO.ins C_Cannot d19 [])) r19 (HO.ins C_Cannot d19 [("reason", V.ref r18)])) r19 = some (.ins C_Cannot d19 [("reason", V.ref r18)]) := upd_same
    generalize upd (upd (upd Z18 d19 (HO.own r19)) r19 (HO.ins C_Cannot d19 [])) r19 (HO.ins C_Cannot d19 [("reason", V.ref r18)]) = Z19 at z19 e19 ⊢
    refine ⟨_, rfl, fun r20 d20 n20 m20 _ => ⟨r20, d20, V.ref r8, rfl, upd_same, rfl, ?_⟩⟩
    have z20 : Same Z19 (upd (upd (upd Z19 d20 (HO.own r20)) r20 (HO.ins C_Always d20 [])) r20 (HO.ins C_Always d20 [("reasons", V.ref r8)])) := mkS1 n20 m20
    have e20 : (upd (upd (upd Z19 d20 (HO.own r20)) r20 (HO.ins C_Always d20 [])) r20 (HO.ins C_Always d20 [("reasons", V.ref r8)])) r20 = some (.ins C_Always d20 [("reasons", V.ref r8)]) := upd_same
    generalize upd (upd (upd Z19 d20 (HO.own r20)) r20 (HO.ins C_Always d20 [])) r20 (HO.ins C_Always d20 [("reasons", V.ref r8)]) = Z20 at z20 e20 ⊢
    refine ⟨(by show 0 ≤ 100000; decide), fun Z21 r21 z21 n21 e21 => ?_⟩
    refine fun r22 d22 n22 m22 _ => ⟨r22, d22, V.ref r21, rfl, upd_same, rfl, ?_⟩
    have z22 : Same Z21 (upd (upd (upd Z21 d22 (HO.own r22)) r22 (HO.ins C_Always d22 [])) r22 (HO.ins C_Always d22 [("reasons", V.ref r21)])) := mkS1 n22 m22
    have e22 : (upd (upd (upd Z21 d22 (HO.own r22)) r22 (HO.ins C_Always d22 [])) r22 (HO.ins C_Always d22 [("reasons", V.ref r21)])) r22 = some (.ins C_Always d22 [("reasons", V.ref r21)]) := upd_same
    generalize upd (upd (upd Z21 d22 (HO.own r22)) r22 (HO.ins C_Always d22 [])) r22 (HO.ins C_Always d22 [("reasons", V.ref r21)]) = Z22 at z22 e22 ⊢
    refine ⟨(by show 5 ≤ 100000; decide), fun Z23 r23 z23 n23 e23 => ?_⟩
    have fO : F2 (ObAt (⟨C_Chain, C_Ring, C_Through, C_Can, C_Stopped, C_Cannot, C_Always⟩ : Cc) Z23) [r16, r17, r19, r20, r22] (obs5 fu ss) := .cons (show ObAt _ _ _ _ from ⟨_, _, ((z17.trans (z18.trans (z19.trans (z20.trans (z21.trans (z22.trans z23)))))) _ _ e16), ((z1.trans (z2.trans (z3.trans (z4.trans (z5.trans (z6.trans (z7.trans (z8.trans (z9.trans (z10.trans (z11.trans (z12.trans (z13.trans (z14.trans (z15.trans (z16.trans (z17.trans (z18.trans (z19.trans (z20.trans (z21.trans (z22.trans z23)))))))))))))))))))))) _ _ ed)⟩) (.cons (show ObAt _ _ _ _ from ⟨_, _, ((z18.trans (z19.trans (z20.trans (z21.trans (z22.trans z23))))) _ _ e17), ((z1.trans (z2.trans (z3.trans (z4.trans (z5.trans (z6.trans (z7.trans (z8.trans (z9.trans (z10.trans (z11.trans (z12.trans (z13.trans (z14.trans (z15.trans (z16.trans (z17.trans (z18.trans (z19.trans (z20.trans (z21.trans (z22.trans z23)))))))))))))))))))))) _ _ ed)⟩) (.cons (show ObAt _ _ _ _ from ⟨_, _, ((z20.trans (z21.trans (z22.trans z23))) _ _ e19), ⟨_, _, ((z19.trans (z20.trans (z21.trans (z22.trans z23)))) _ _ e18), (steps_same (z1.trans (z2.trans (z3.trans (z4.trans (z5.trans (z6.trans (z7.trans (z8.trans (z9.trans (z10.trans (z11.trans (z12.trans (z13.trans (z14.trans (z15.trans (z16.trans (z17.trans (z18.trans (z19.trans (z20.trans (z21.trans (z22.trans z23)))))))))))))))))))))) ks)⟩⟩) (.cons (show ObAt _ _ _ _ from ⟨_, _, ((z21.trans (z22.trans z23)) _ _ e20), [r5, r7], ((z9.trans (z10.trans (z11.trans (z12.trans (z13.trans (z14.trans (z15.trans (z16.trans (z17.trans (z18.trans (z19.trans (z20.trans (z21.trans (z22.trans z23)))))))))))))) _ _ e8), .cons ⟨_, ((z6.trans (z7.trans (z8.trans (z9.trans (z10.trans (z11.trans (z12.trans (z13.trans (z14.trans (z15.trans (z16.trans (z17.trans (z18.trans (z19.trans (z20.trans (z21.trans (z22.trans z23))))))))))))))))) _ _ e5), ⟨_, _, ((z5.trans (z6.trans (z7.trans (z8.trans (z9.trans (z10.trans (z11.trans (z12.trans (z13.trans (z14.trans (z15.trans (z16.trans (z17.trans (z18.trans (z19.trans (z20.trans (z21.trans (z22.trans z23)))))))))))))))))) _ _ e4), (steps_same (z1.trans (z2.trans (z3.trans (z4.trans (z5.trans (z6.trans (z7.trans (z8.trans (z9.trans (z10.trans (z11.trans (z12.trans (z13.trans (z14.trans (z15.trans (z16.trans (z17.trans (z18.trans (z19.trans (z20.trans (z21.trans (z22.trans z23)))))))))))))))))))))) ks)⟩⟩ (.cons ⟨_, ((z8.trans (z9.trans (z10.trans (z11.trans (z12.trans (z13.trans (z14.trans (z15.trans (z16.trans (z17.trans (z18.trans (z19.trans (z20.trans (z21.trans (z22.trans z23))))))))))))))) _ _ e7), ⟨_, _, ((z7.trans (z8.trans (z9.trans (z10.trans (z11.trans (z12.trans (z13.trans (z14.trans (z15.trans (z16.trans (z17.trans (z18.trans (z19.trans (z20.trans (z21.trans (z22.trans z23)))))))))))))))) _ _ e6), (steps_same (z1.trans (z2.trans (z3.trans (z4.trans (z5.trans (z6.trans (z7.trans (z8.trans (z9.trans (z10.trans (z11.trans (z12.trans (z13.trans (z14.trans (z15.trans (z16.trans (z17.trans (z18.trans (z19.trans (z20.trans (z21.trans (z22.trans z23)))))))))))))))))))))) ks)⟩⟩ .nil)⟩) (.cons (show ObAt _ _ _ _ from ⟨_, _, (z23 _ _ e22), [], ((z22.trans z23) _ _ e21), .nil⟩) (.nil)))))
    have oks := ok5 of ok
    refine ⟨_, rfl, noPart ?_⟩
    refine ⟨_, rfl, r23, _, rfl, SqL.of ((Same.refl _) _ _ e23), fun W hW => ?_⟩
    have eK : cutV [V.ref r16, V.ref r17, V.ref r19, V.ref r20, V.ref r22] none (some 2) = [V.ref r16, V.ref r17] := rfl
    rw [eK]
    have z24 : Same Z23 (upd Z23 W (.lst [V.ref r16, V.ref r17])) := same_new hW
    have e24 : (upd Z23 W (.lst [V.ref r16, V.ref r17])) W = some (.lst [V.ref r16, V.ref r17]) := upd_same
    have nW : Z23 W = none := hW
    generalize upd Z23 W (HO.lst [V.ref r16, V.ref r17]) = Z24 at z24 e24 ⊢
    refine ⟨W, rfl, ⟨_, SqL.of e24⟩, fun D hD => ?_⟩
    have fP : F2 (ObAt (⟨C_Chain, C_Ring, C_Through, C_Can, C_Stopped, C_Cannot, C_Always⟩ : Cc) Z24) [r16, r17] ([.can fu, .stp fu "b"]) := (f2_part (f2_imp (fun _ _ q => ob_same z24 q) fO)).1
    have okP : ∀ o ∈ ([.can fu, .stp fu "b"] : List Ob), OkO o := fun o ho => oks o (by simp only [obs5, List.mem_cons, List.not_mem_nil, or_false] at ho ⊢; rcases ho with rfl | rfl <;> simp)
    refine lcRM (walk_list (K := K) (a := W) (xs := [V.ref r16, V.ref r17])) (fun i y H => ∀ o, ([.can fu, .stp fu "b"] : List Ob)[i]? = some o → Lns H o y) (fun i y H H' s h o e => let ⟨l, e1, e2⟩ := h o e; ⟨l, e1, s _ _ e2⟩) (by show 2 ≤ 100000; decide) hD (fun H5 s5 => SqL.of (s5 _ _ e24)) ?_ ?_
    · rintro i y Hi Hj Nx hi si ne ⟨rfl, ey⟩ N
      obtain ⟨p', ep, rfl⟩ : ∃ p', [r16, r17][i]? = some p' ∧ y = .ref p' := by
        have ey : ([r16, r17].map V.ref)[i]? = some y := ey
        rw [List.getElem?_map] at ey
        cases e : [r16, r17][i]? with
        | none => rw [e] at ey; cases ey
        | some q => rw [e] at ey; exact ⟨q, rfl, (Option.some.inj ey).symm⟩
      obtain ⟨o, eo, ho⟩ := f2_getl fP ep
      have ho := ob_same si ho
      obtain ⟨dx, fs, ei, ls⟩ := ob_ins ho
      refine ⟨rfl, _, rfl, p', _, dx, fs, rfl, Cc.mem _ o, ei, ls, p', o, rfl, rfl, ho, okP o (List.mem_of_getElem? eo), fun H5 l5 s5 n5 e5 => N _ H5 s5 fun o' eo' => ?_⟩
      rw [eo] at eo'
      cases eo'
      have lD : l5 ≠ D := fun z => ne (z ▸ n5)
      exact ⟨l5, rfl, by rw [Nb.del_ne lD]; exact e5⟩
    rintro Z25 ys25 z25 e25 fR
    have g25 := f2_range (os := ([.can fu, .stp fu "b"] : List Ob)) fR
    refine ⟨_, rfl, (by show 1 ≤ 100000; decide), fun Z26 r26 z26 n26 e26 => ?_⟩
    refine ⟨_, rfl, (by show 2 ≤ 100000; decide), fun Z27 r27 z27 n27 e27 => ?_⟩
    refine ⟨(by show 2 ≤ 100000; decide), fun Z28 r28 z28 n28 e28 => ?_⟩
    have nb : named "stopper " "b" = "stopper b" := by decide +kernel
    rw [← nb] at e27
    refine ne_lines (d := .list (([.can fu, .stp fu "b"] : List Ob).map fun o => PyData.list ((linesOf o).map PyData.str))) (.lst (SqL.of ((z26.trans (z27.trans z28)) _ _ e25)) (lns_dp (f2_imp (fun o y => fun ⟨l, a1, a2⟩ => ⟨l, a1, (z26.trans (z27.trans z28)) _ _ a2⟩) g25))) (.lst (SqL.of e28) (.cons (dp_lines (zs := linesOf (.can fu)) ((z27.trans z28) _ _ e26)) (.cons (dp_lines (zs := linesOf (.stp fu "b")) (z28 _ _ e27)) .nil))) (fine_shown okP) (by decide) ⟨_, rfl, iteF ?_⟩
    clear okP
    refine ⟨_, rfl, _, rfl, noPart ?_⟩
    refine ⟨r23, _, rfl, SqL.of ((z24.trans (z25.trans (z26.trans (z27.trans z28)))) _ _ e23), fun W hW => ?_⟩
    have eK : cutV [V.ref r16, V.ref r17, V.ref r19, V.ref r20, V.ref r22] (some 2) none = [V.ref r19, V.ref r20, V.ref r22] := rfl
    rw [eK]
    have z29 : Same Z28 (upd Z28 W (.lst [V.ref r19, V.ref r20, V.ref r22])) := same_new hW
    have e29 : (upd Z28 W (.lst [V.ref r19, V.ref r20, V.ref r22])) W = some (.lst [V.ref r19, V.ref r20, V.ref r22]) := upd_same
    have nW : Z28 W = none := hW
    generalize upd Z28 W (HO.lst [V.ref r19, V.ref r20, V.ref r22]) = Z29 at z29 e29 ⊢
    refine ⟨W, rfl, ⟨_, SqL.of e29⟩, fun D hD => ?_⟩
    have fP : F2 (ObAt (⟨C_Chain, C_Ring, C_Through, C_Can, C_Stopped, C_Cannot, C_Always⟩ : Cc) Z29) [r19, r20, r22] ([.cant true ss, .alw [("zz", true, ss), ("b", false, ss)], .alw []]) := (f2_part (f2_imp (fun _ _ q => ob_same (z24.trans (z25.trans (z26.trans (z27.trans (z28.trans z29))))) q) fO)).2
    have okP : ∀ o ∈ ([.cant true ss, .alw [("zz", true, ss), ("b", false, ss)], .alw []] : List Ob), OkO o := fun o ho => oks o (by simp only [obs5, List.mem_cons, List.not_mem_nil, or_false] at ho ⊢; rcases ho with rfl | rfl | rfl <;> simp)
    refine lcRM (walk_list (K := K) (a := W) (xs := [V.ref r19, V.ref r20, V.ref r22])) (fun i y H => ∀ o, ([.cant true ss, .alw [("zz", true, ss), ("b", false, ss)], .alw []] : List Ob)[i]? = some o → Lns H o y) (fun i y H H' s h o e => let ⟨l, e1, e2⟩ := h o e; ⟨l, e1, s _ _ e2⟩) (by show 3 ≤ 100000; decide) hD (fun H5 s5 => SqL.of (s5 _ _ e29)) ?_ ?_
    · rintro i y Hi Hj Nx hi si ne ⟨rfl, ey⟩ N
      obtain ⟨p', ep, rfl⟩ : ∃ p', [r19, r20, r22][i]? = some p' ∧ y = .ref p' := by
        have ey : ([r19, r20, r22].map V.ref)[i]? = some y := ey
        rw [List.getElem?_map] at ey
        cases e : [r19, r20, r22][i]? with
        | none => rw [e] at ey; cases ey
        | some q => rw [e] at ey; exact ⟨q, rfl, (Option.some.inj ey).symm⟩
      obtain ⟨o, eo, ho⟩ := f2_getl fP ep
      have ho := ob_same si ho
      obtain ⟨dx, fs, ei, ls⟩ := ob_ins ho
      refine ⟨rfl, _, rfl, p', _, dx, fs, rfl, Cc.mem _ o, ei, ls, p', o, rfl, rfl, ho, okP o (List.mem_of_getElem? eo), fun H5 l5 s5 n5 e5 => N _ H5 s5 fun o' eo' => ?_⟩
      rw [eo] at eo'
      cases eo'
      have lD : l5 ≠ D := fun z => ne (z ▸ n5)
      exact ⟨l5, rfl, by rw [Nb.del_ne lD]; exact e5⟩
    rintro Z30 ys30 z30 e30 fR
    have g30 := f2_range (os := ([.cant true ss, .alw [("zz", true, ss), ("b", false, ss)], .alw []] : List Ob)) fR
    refine ⟨(by show 1 ≤ 100000; decide), fun Z31 r31 z31 n31 e31 => ?_⟩
    refine ⟨_, rfl, t, ss, rfl, (steps_same (z1.trans (z2.trans (z3.trans (z4.trans (z5.trans (z6.trans (z7.trans (z8.trans (z9.trans (z10.trans (z11.trans (z12.trans (z13.trans (z14.trans (z15.trans (z16.trans (z17.trans (z18.trans (z19.trans (z20.trans (z21.trans (z22.trans (z23.trans (z24.trans (z25.trans (z26.trans (z27.trans (z28.trans (z29.trans (z30.trans z31)))))))))))))))))))))))))))))) ks), ok, fun Z32 r32 z32 n32 e32 => ?_⟩
    refine ⟨r31, r32, _, _, rfl, rfl, (z32 _ _ e31), e32, (by simp only [List.length_append, List.length_map, List.length_cons, List.length_nil]; omega), fun Z33 r33 z33 n33 e33 => ?_⟩
    refine ⟨(by show 1 ≤ 100000; decide), fun Z34 r34 z34 n34 e34 => ?_⟩
    refine ⟨r33, r34, _, _, rfl, rfl, (z34 _ _ e33), e34, (by simp only [List.length_append, List.length_map, List.length_cons, List.length_nil]; omega), fun Z35 r35 z35 n35 e35 => ?_⟩
    refine ⟨_, rfl, (by show 1 ≤ 100000; decide), fun Z36 r36 z36 n36 e36 => ?_⟩
    refine ⟨(by show 3 ≤ 100000; decide), fun Z37 r37 z37 n37 e37 => ?_⟩
    have eC : (Z37 : Hp) r35 = some (.lst ((linesOf (.cant true ss)).map V.str)) := by
      rw [((z36.trans z37) _ _ e35)]
      simp only [linesOf, rsnL, List.map_cons, List.map_append]
      rfl
    refine ne_lines (d := .list (([.cant true ss, .alw [("zz", true, ss), ("b", false, ss)], .alw []] : List Ob).map fun o => PyData.list ((linesOf o).map PyData.str))) (.lst (SqL.of ((z31.trans (z32.trans (z33.trans (z34.trans (z35.trans (z36.trans z37)))))) _ _ e30)) (lns_dp (f2_imp (fun o y => fun ⟨l, a1, a2⟩ => ⟨l, a1, (z31.trans (z32.trans (z33.trans (z34.trans (z35.trans (z36.trans z37)))))) _ _ a2⟩) g30))) (.lst (SqL.of e37) (.cons (dp_lines eC) (.cons (dp_lines ((z16.trans (z17.trans (z18.trans (z19.trans (z20.trans (z21.trans (z22.trans (z23.trans (z24.trans (z25.trans (z26.trans (z27.trans (z28.trans (z29.trans (z30.trans (z31.trans (z32.trans (z33.trans (z34.trans (z35.trans (z36.trans z37))))))))))))))))))))) _ _ eDue)) (.cons (dp_lines (zs := linesOf (.alw [])) (z37 _ _ e36)) .nil)))) (fine_shown okP) (by decide) ⟨_, rfl, iteF ?_⟩
    clear okP
    refine ⟨_, rfl, r23, rfl, ⟨_, SqL.of ((z24.trans (z25.trans (z26.trans (z27.trans (z28.trans (z29.trans (z30.trans (z31.trans (z32.trans (z33.trans (z34.trans (z35.trans (z36.trans z37))))))))))))) _ _ e23)⟩, fun D hD => ?_⟩
    refine lcM (walk_list (K := K) (a := r23) (xs := [V.ref r16, V.ref r17, V.ref r19, V.ref r20, V.ref r22])) (fun i => .bl ([true, true, false, false, false].getD i false)) (by show 5 ≤ 100000; decide) hD (fun H5 s5 => SqL.of (s5 _ _ ((z24.trans (z25.trans (z26.trans (z27.trans (z28.trans (z29.trans (z30.trans (z31.trans (z32.trans (z33.trans (z34.trans (z35.trans (z36.trans z37))))))))))))) _ _ e23))) ?_ ?_
    · rintro i y Hi Hj Nx hi si ⟨rfl, ey⟩ N
      have hi : i = 0 ∨ i = 1 ∨ i = 2 ∨ i = 3 ∨ i = 4 := by
        have hi : i < 5 := hi
        omega
      have fI := f2_imp (fun _ _ q => ob_same ((z24.trans (z25.trans (z26.trans (z27.trans (z28.trans (z29.trans (z30.trans (z31.trans (z32.trans (z33.trans (z34.trans (z35.trans (z36.trans z37))))))))))))).trans si) q) fO
      rcases hi with rfl | rfl | rfl | rfl | rfl
      · cases ey
        have ob := f2_nth fI (i := 0) rfl rfl
        obtain ⟨dx, fs, ei, _⟩ := ob_ins ob
        exact ⟨rfl, _, rfl, _, _, _, _, _, rfl, .own _, isi_ty FX IS (Cc.mem _ _) ei, kAC _ (by simp [Cc.of]), N _ (Same.refl _)⟩
      · cases ey
        have ob := f2_nth fI (i := 1) rfl rfl
        obtain ⟨dx, fs, ei, _⟩ := ob_ins ob
        exact ⟨rfl, _, rfl, _, _, _, _, _, rfl, .own _, isi_ty FX IS (Cc.mem _ _) ei, kAC _ (by simp [Cc.of]), N _ (Same.refl _)⟩
      · cases ey
        have ob := f2_nth fI (i := 2) rfl rfl
        obtain ⟨dx, fs, ei, _⟩ := ob_ins ob
        exact ⟨rfl, _, rfl, _, _, _, _, _, rfl, .own _, isi_ty FX IS (Cc.mem _ _) ei, kNC _ (by simp [Cc.of]), N _ (Same.refl _)⟩
      · cases ey
        have ob := f2_nth fI (i := 3) rfl rfl
        obtain ⟨dx, fs, ei, _⟩ := ob_ins ob
        exact ⟨rfl, _, rfl, _, _, _, _, _, rfl, .own _, isi_ty FX IS (Cc.mem _ _) ei, kNC _ (by simp [Cc.of]), N _ (Same.refl _)⟩
      · cases ey
        have ob := f2_nth fI (i := 4) rfl rfl
        obtain ⟨dx, fs, ei, _⟩ := ob_ins ob
        exact ⟨rfl, _, rfl, _, _, _, _, _, rfl, .own _, isi_ty FX IS (Cc.mem _ _) ei, kNC _ (by simp [Cc.of]), N _ (Same.refl _)⟩
    rintro Z38 z38 e38
    refine ⟨(by show 5 ≤ 100000; decide), fun Z39 r39 z39 n39 e39 => ?_⟩
    refine ne_lines (d := .list ([true, true, false, false, false].map PyData.bool)) (n := 1) (.lst (SqL.of (z39 _ _ e38)) (dp_bls [true, true, false, false, false])) (.lst (SqL.of e39) (dp_bls [true, true, false, false, false])) (fine_bls _) (by decide) ⟨_, rfl, iteF ?_⟩
    refine ⟨_, rfl, r23, rfl, ⟨_, SqL.of ((z24.trans (z25.trans (z26.trans (z27.trans (z28.trans (z29.trans (z30.trans (z31.trans (z32.trans (z33.trans (z34.trans (z35.trans (z36.trans (z37.trans (z38.trans z39))))))))))))))) _ _ e23)⟩, fun D hD => ?_⟩
    refine lcM (walk_list (K := K) (a := r23) (xs := [V.ref r16, V.ref r17, V.ref r19, V.ref r20, V.ref r22])) (fun i => .bl ([true, false, false, true, true].getD i false)) (by show 5 ≤ 100000; decide) hD (fun H5 s5 => SqL.of (s5 _ _ ((z24.trans (z25.trans (z26.trans (z27.trans (z28.trans (z29.trans (z30.trans (z31.trans (z32.trans (z33.trans (z34.trans (z35.trans (z36.trans (z37.trans (z38.trans z39))))))))))))))) _ _ e23))) ?_ ?_
    · rintro i y Hi Hj Nx hi si ⟨rfl, ey⟩ N
      have hi : i = 0 ∨ i = 1 ∨ i = 2 ∨ i = 3 ∨ i = 4 := by
        have hi : i < 5 := hi
        omega
      have fI := f2_imp (fun _ _ q => ob_same ((z24.trans (z25.trans (z26.trans (z27.trans (z28.trans (z29.trans (z30.trans (z31.trans (z32.trans (z33.trans (z34.trans (z35.trans (z36.trans (z37.trans (z38.trans z39))))))))))))))).trans si) q) fO
      rcases hi with rfl | rfl | rfl | rfl | rfl
      · cases ey
        have ob := f2_nth fI (i := 0) rfl rfl
        obtain ⟨dx, fs, ei, _⟩ := ob_ins ob
        exact ⟨rfl, _, rfl, _, _, dx, fs, rfl, by simp [Cc.of], ei, _, _, rfl, rfl, ob, _, rfl, N _ (Same.refl _)⟩
      · cases ey
        have ob := f2_nth fI (i := 1) rfl rfl
        obtain ⟨dx, fs, ei, _⟩ := ob_ins ob
        exact ⟨rfl, _, rfl, _, _, dx, fs, rfl, by simp [Cc.of], ei, _, _, rfl, rfl, ob, _, rfl, N _ (Same.refl _)⟩
      · cases ey
        have ob := f2_nth fI (i := 2) rfl rfl
        obtain ⟨dx, fs, ei, _⟩ := ob_ins ob
        exact ⟨rfl, _, rfl, _, _, dx, fs, rfl, by simp [Cc.of], ei, _, _, rfl, rfl, ob, _, rfl, N _ (Same.refl _)⟩
      · cases ey
        have ob := f2_nth fI (i := 3) rfl rfl
        obtain ⟨dx, fs, ei, _⟩ := ob_ins ob
        exact ⟨rfl, _, rfl, _, _, dx, fs, rfl, by simp [Cc.of], ei, _, _, rfl, rfl, ob, _, rfl, N _ (Same.refl _)⟩
      · cases ey
        have ob := f2_nth fI (i := 4) rfl rfl
        obtain ⟨dx, fs, ei, _⟩ := ob_ins ob
        exact ⟨rfl, _, rfl, _, _, dx, fs, rfl, by simp [Cc.of], ei, _, _, rfl, rfl, ob, _, rfl, N _ (Same.refl _)⟩
    rintro Z40 z40 e40
    refine ⟨(by show 5 ≤ 100000; decide), fun Z41 r41 z41 n41 e41 => ?_⟩
    refine eq_lines (d := .list ([true, false, false, true, true].map PyData.bool)) (n := 1) (.lst (SqL.of (z41 _ _ e40)) (dp_bls [true, false, false, true, true])) (.lst (SqL.of e41) (dp_bls [true, false, false, true, true])) (fine_bls _) (by decide) ⟨_, rfl, iteT ?_⟩
    have ob := f2_nth (f2_imp (fun _ _ q => ob_same (z24.trans (z25.trans (z26.trans (z27.trans (z28.trans (z29.trans (z30.trans (z31.trans (z32.trans (z33.trans (z34.trans (z35.trans (z36.trans (z37.trans (z38.trans (z39.trans (z40.trans z41))))))))))))))))) q) fO) (i := 2) rfl rfl
    obtain ⟨dx, fs, ei, _⟩ := ob_ins ob
    refine ⟨_, rfl, r23, _, _, .ref r19, rfl, rfl, SqL.of ((z24.trans (z25.trans (z26.trans (z27.trans (z28.trans (z29.trans (z30.trans (z31.trans (z32.trans (z33.trans (z34.trans (z35.trans (z36.trans (z37.trans (z38.trans (z39.trans (z40.trans z41))))))))))))))))) _ _ e23), atI_nat (j := 2) rfl, _, _, _, _, _, rfl, .own _, isi_ty FX IS (Cc.mem _ _) ei, kCA, ?_⟩
    exact q _ (fr.trans (z1.trans (z2.trans (z3.trans (z4.trans (z5.trans (z6.trans (z7.trans (z8.trans (z9.trans (z10.trans (z11.trans (z12.trans (z13.trans (z14.trans (z15.trans (z16.trans (z17.trans (z18.trans (z19.trans (z20.trans (z21.trans (z22.trans (z23.trans (z24.trans (z25.trans (z26.trans (z27.trans (z28.trans (z29.trans (z30.trans (z31.trans (z32.trans (z33.trans (z34.trans (z35.trans (z36.trans (z37.trans (z38.trans (z39.trans (z40.trans z41))))))))))))))))))))))))))))))))))))))))) ((SW.same (z1.trans (z2.trans (z3.trans (z4.trans (z5.trans (z6.trans (z7.trans (z8.trans (z9.trans (z10.trans (z11.trans (z12.trans (z13.trans (z14.trans (z15.trans (z16.trans (z17.trans (z18.trans (z19.trans (z20.trans (z21.trans (z22.trans (z23.trans (z24.trans (z25.trans (z26.trans (z27.trans (z28.trans (z29.trans (z30.trans (z31.trans (z32.trans (z33.trans (z34.trans (z35.trans (z36.trans (z37.trans (z38.trans (z39.trans (z40.trans z41))))))))))))))))))))))))))))))))))))))))).mono (by omega))
end
end K22

set_option Elab.async false
set_option linter.all false
set_option maxRecDepth 100000
set_option maxHeartbeats 4000000
namespace K22
open PySem Nb
open L2 hiding del del_ne del_same
theorem turns3 (L : Int) : 1 ≤ (if (if L < 3 then L else 3) > 1 then (if L < 3 then L else 3) else 1) ∧ (if (if L < 3 then L else 3) > 1 then (if L < 3 then L else 3) else 1) ≤ 3 := by
  split <;> split at * <;> omega
theorem src_del {H : Hp} {p D : Addr} {n : Nat} (S : Src H p n) (h : p ≠ D) : Src (Nb.del H D) p n := let ⟨c, m, r, e, k⟩ := S; ⟨c, m, r, by rw [Nb.del_ne h]; exact e, k⟩
/-- the sources: each a list of three numbers -/
def Srcs (H : Hp) (ys : List V) (n : Nat) : Prop := ∀ (j : Nat) (y : V), ys[j]? = some y → ∃ p, y = V.ref p ∧ Src H p n
theorem srcs_ne {H : Hp} {D p : Addr} {ys : List V} {n j : Nat} (e : H D = some (.lst ys)) (h : ys[j]? = some (.ref p)) (S : Src H p n) : p ≠ D := fun z => by
  obtain ⟨c, m, r, e2, _⟩ := S
  rw [z, e] at e2
  injection (Option.some.inj e2) with e3
  rw [e3] at h
  match j, h with
  | 0, h => cases h
  | 1, h => cases h
  | 2, h => cases h
  | j + 3, h => cases h
theorem srcs_step {H H' : Hp} {ys : List V} {p : Addr} {n m : Nat} (h : Srcs H ys n) (s : Same (Nb.del H p) H') (S : Src H' p m) (l : n ≤ m) : Srcs H' ys m := fun j y e => by
  obtain ⟨q, rfl, S2⟩ := h j y e
  by_cases z : q = p
  · subst z
    exact ⟨q, rfl, S⟩
  · exact ⟨q, rfl, ((src_del S2 z).same s).mono l⟩
theorem ok_obs {ss : List St3} (h : Ok3 ss) : ∀ o ∈ obs ss, OkO o := fun o ho => by
  have sa : OkS "a" := ⟨by decide +kernel, by decide⟩
  have sb : OkS "b" := ⟨by decide +kernel, by decide⟩
  have fa : OkF ["a"] := ⟨fun z hz => by rw [List.mem_singleton.mp hz]; exact sa, by decide⟩
  simp only [obs, List.mem_cons, List.not_mem_nil, or_false] at ho
  rcases ho with rfl | rfl | rfl | rfl | rfl | rfl | rfl | rfl | rfl | rfl
  · exact h
  · exact h
  · exact ⟨h, sa⟩
  · exact ⟨h, sb⟩
  · exact fa
  · exact ⟨fa, sa⟩
  · exact ⟨fa, sb⟩
  · exact h
  · exact h
  · exact ⟨fun r hr => by rw [List.mem_singleton.mp hr]; exact ⟨sa, h⟩, by show 1 ≤ 10; decide⟩
theorem flat_len {m : Nat} : ∀ {k : Nat} {ls : List (List PySem.Str)}, (∀ l ∈ ls, l.length ≤ m) → ls.length ≤ k → ls.flatten.length ≤ m * k
  | _, [], _, _ => Nat.zero_le _
  | 0, _ :: _, _, h => nomatch h
  | k + 1, l :: ls, h, h2 => by
    have h1 := h l (List.mem_cons_self ..)
    have h3 := flat_len (k := k) (fun x hx => h x (List.mem_cons_of_mem _ hx)) (by simpa using h2)
    rw [List.flatten_cons, List.length_append, Nat.mul_add]
    omega
theorem lines_len : ∀ {x : Ob}, OkO x → (linesOf x).length ≤ 1000
  | .chain ss, h => by have := h.2; simp [linesOf]; omega
  | .ring ss, h => by have := h.2; simp [linesOf]; omega
  | .thr ss n, h => by have := h.1.2; simp [linesOf]; omega
  | .can f, h => by simp [linesOf]
  | .stp f n, h => by simp [linesOf]
  | .cant k ss, h => by have := rsn_len (k := k) h; simp [linesOf]; omega
  | .alw rs, h => by
    have := flat_len (m := 12) (k := 10) (ls := rs.map fun r => named "stopper " r.1 :: rsnL r.2.1 r.2.2) (fun l hl => by
      obtain ⟨r, hr, rfl⟩ := List.mem_map.mp hl
      have := rsn_len (k := r.2.1) (h.1 r hr).2
      rw [List.length_cons]
      omega) (by rw [List.length_map]; exact h.2)
    show ((rs.map fun r => named "stopper " r.1 :: rsnL r.2.1 r.2.2).flatten).length + 1 ≤ 1000
    omega
theorem obs_len (ss : List St3) : (obs ss).length = 10 := rfl
theorem obs_nodup (ss : List St3) : (obs ss).Nodup := by
  have e1 : ("a" : PySem.Str) ≠ "b" := by decide
  simp [obs, e1]
theorem obs_eo {ss : List St3} : ∀ x ∈ obs ss, ∀ y ∈ obs ss, EqOk x y := fun x hx y hy => by
  simp only [obs, List.mem_cons, List.not_mem_nil, or_false] at hx hy
  rcases hx with rfl | rfl | rfl | rfl | rfl | rfl | rfl | rfl | rfl | rfl <;> first | exact trivial | (rcases hy with rfl | rfl | rfl | rfl | rfl | rfl | rfl | rfl | rfl | rfl <;> first | exact trivial | rfl)
theorem obs_dec {ss : List St3} {i k : Nat} {x y : Ob} (ei : (obs ss)[i]? = some x) (ek : (obs ss)[k]? = some y) : decide (x = y) = decide (i = k) := by
  obtain ⟨hi, rfl⟩ := List.getElem?_eq_some_iff.mp ei
  obtain ⟨hk, rfl⟩ := List.getElem?_eq_some_iff.mp ek
  rw [Bool.eq_iff_iff, decide_eq_true_eq, decide_eq_true_eq]
  exact ⟨fun h => (List.getElem_inj (obs_nodup ss)).mp h, fun h => by subst h; rfl⟩
theorem marks_eq (n k : Nat) : ((List.range n).map fun i => V.bl (decide (i = k))) = (((List.range n).map fun i => decide (i = k)).map V.bl) := by rw [List.map_map]; rfl
theorem dec_nat (k i : Nat) : decide (V.int (0 + (k : Int)) = V.int (i : Int)) = decide (k = i) := by
  rw [Bool.eq_iff_iff]
  simp
  omega
section
variable {P : Program} {w : World} {K : PySem.W.Frag} {mg : Str → Option Value} {base : Heap}
abbrev s_law : Stmt := topS 26
theorem sc_law : FnScope ["_law_script", "_law_k", "_law_source_here", "_law_steps", "_law_some", "_law_one", "_law_told", "_law_other", "_law_spot"] ["_law_script"] (defScope s_law) := ⟨rfl, rfl, rfl, by decide +kernel, rfl, by decide +kernel, by decide +kernel⟩
def sx_law_0 : Scope := { kind := .function, names := [(".0", .local), ("_law_k", .local), ("_law_source", .globalImplicit), ("_law_script", .cell)], isGenerator := false, isCoroutine := false, more := [] }
def sx_law_1 : Scope := { kind := .function, names := [(".0", .local), ("_law_other", .local), ("_law_one", .cell)], isGenerator := false, isCoroutine := false, more := [] }
def sx_law_2 : Scope := { kind := .function, names := [(".0", .local), ("_law_spot", .local), ("_law_k", .cell)], isGenerator := false, isCoroutine := false, more := [] }
theorem ok_law {f : Addr} {fd : FuncData} (F : Fun K "law" "law" s_law f fd) {C_Always : Addr} {C_Can : Addr} {C_Cannot : Addr} {C_Chain : Addr} {C_Ring : Addr} {C_Stopped : Addr} {C_Through : Addr} (T : Txt mg) (D_h_source : Dn P w K mg base CX0 1 "_law_source" ["_law_script", "_law_k"] (spSource K)) (D_Chain___eq : Mn P w K mg base CX0 1 C_Chain "__eq__" ["self", "other"] (spEqO (⟨C_Chain, C_Ring, C_Through, C_Can, C_Stopped, C_Cannot, C_Always⟩ : Cc) C_Chain)) (D_Ring___eq : Mn P w K mg base CX0 1 C_Ring "__eq__" ["self", "other"] (spEqO (⟨C_Chain, C_Ring, C_Through, C_Can, C_Stopped, C_Cannot, C_Always⟩ : Cc) C_Ring)) (D_Can___eq : Mn P w K mg base CX0 1 C_Can "__eq__" ["self", "other"] (spEqO (⟨C_Chain, C_Ring, C_Through, C_Can, C_Stopped, C_Cannot, C_Always⟩ : Cc) C_Can)) (D_Through___eq : Mn P w K mg base CX0 1 C_Through "__eq__" ["self", "other"] (spEqO (⟨C_Chain, C_Ring, C_Through, C_Can, C_Stopped, C_Cannot, C_Always⟩ : Cc) C_Through)) (D_Stopped___eq : Mn P w K mg base CX0 1 C_Stopped "__eq__" ["self", "other"] (spEqO (⟨C_Chain, C_Ring, C_Through, C_Can, C_Stopped, C_Cannot, C_Always⟩ : Cc) C_Stopped)) (D_Cannot___eq : Mn P w K mg base CX0 4 C_Cannot "__eq__" ["self", "other"] (spEqO (⟨C_Chain, C_Ring, C_Through, C_Can, C_Stopped, C_Cannot, C_Always⟩ : Cc) C_Cannot)) (D_Always___eq : Mn P w K mg base CX0 4 C_Always "__eq__" ["self", "other"] (spEqO (⟨C_Chain, C_Ring, C_Through, C_Can, C_Stopped, C_Cannot, C_Always⟩ : Cc) C_Always)) (D_Chain_show : Mn P w K mg base CX0 2 C_Chain "show" ["self"] (spShow (⟨C_Chain, C_Ring, C_Through, C_Can, C_Stopped, C_Cannot, C_Always⟩ : Cc) C_Chain)) (D_Ring_show : Mn P w K mg base CX0 2 C_Ring "show" ["self"] (spShow (⟨C_Chain, C_Ring, C_Through, C_Can, C_Stopped, C_Cannot, C_Always⟩ : Cc) C_Ring)) (D_Through_show : Mn P w K mg base CX0 2 C_Through "show" ["self"] (spShow (⟨C_Chain, C_Ring, C_Through, C_Can, C_Stopped, C_Cannot, C_Always⟩ : Cc) C_Through)) (D_Can_show : Mn P w K mg base CX0 2 C_Can "show" ["self"] (spShow (⟨C_Chain, C_Ring, C_Through, C_Can, C_Stopped, C_Cannot, C_Always⟩ : Cc) C_Can)) (D_Stopped_show : Mn P w K mg base CX0 2 C_Stopped "show" ["self"] (spShow (⟨C_Chain, C_Ring, C_Through, C_Can, C_Stopped, C_Cannot, C_Always⟩ : Cc) C_Stopped)) (D_Cannot_show : Mn P w K mg base CX0 3 C_Cannot "show" ["self"] (spShow (⟨C_Chain, C_Ring, C_Through, C_Can, C_Stopped, C_Cannot, C_Always⟩ : Cc) C_Cannot)) (D_Always_show : Mn P w K mg base CX0 3 C_Always "show" ["self"] (spShow (⟨C_Chain, C_Ring, C_Through, C_Can, C_Stopped, C_Cannot, C_Always⟩ : Cc) C_Always)) (D_h_random_steps : Dn P w K mg base CX0 3 "_law_random_steps" ["_law_source_here"] (spRS)) (D_h_some_objects : Dn P w K mg base CX0 3 "_law_some_objects" ["_law_steps"] (spSome (⟨C_Chain, C_Ring, C_Through, C_Can, C_Stopped, C_Cannot, C_Always⟩ : Cc))) (D_h_reasons_right : Dn P w K mg base CX0 6 "_law_reasons_right" ["_law_source_here", "_law_steps"] (spRR (⟨C_Chain, C_Ring, C_Through, C_Can, C_Stopped, C_Cannot, C_Always⟩ : Cc))) (D_h_answers_right : Dn P w K mg base CX0 8 "_law_answers_right" ["_law_source_here", "_law_steps"] (spRR (⟨C_Chain, C_Ring, C_Through, C_Can, C_Stopped, C_Cannot, C_Always⟩ : Cc))) (FX : Fx K (⟨C_Chain, C_Ring, C_Through, C_Can, C_Stopped, C_Cannot, C_Always⟩ : Cc)) : FnOk P w K mg base CX0 9 f fd ["_law_script"] (spLaw0 K) := by
  refine F.ok sc_law (fun vs H Q E h => ?_) (fun cdv A outer s H vs Q E hr h => ?_)
  · obtain ⟨a, ns, rfl, _⟩ := h
    rfl
  · obtain ⟨a, ns, rfl, hS, hlen, q⟩ := h
    refine ⟨_, pss_cons (ps_for PassesOwn.never rfl (pi_list (pe_lc (own := [("_law_k", 1)]) (g := gName 1) (tt := tYes) rfl sc_law.nd (pi_range1 (by rfl) T.range (pa_cons (pe_callB (call_max2 rfl) (by rfl) T.max (by decide +kernel) (pa_cons pe_int (pa_cons (pe_callB (call_min2 rfl) (by rfl) T.min (by decide +kernel) (pa_cons pe_int (pa_cons (pe_callB call_len_seq (by rfl) T.len PySem.boot_len (pa_cons (pv 0) pa_nil)) pa_nil))) pa_nil))) pa_nil)) (blkOk_by (N := ["_law_script", "_law_k", "_law_source_here", "_law_steps", "_law_some", "_law_one", "_law_told", "_law_other", "_law_spot"]) (sc := (defScope s_law)) (by decide +kernel)) (fun _ _ _ _ _ => (pg_name (i := 1) sc_law.nd rfl (Or.inl rfl))) (fun _ _ _ _ _ => pts_nil) (fun _ _ _ _ _ => (pe_D D_h_source (hr.mono (by decide)) (by rfl) pass0 (pa_cons (pv 0) (pa_cons (pv 1) pa_nil)))))) (pg_name (i := 2) sc_law.nd rfl (Or.inl rfl)) (pss_cons (ps_set (i := 3) sc_law.nd rfl (Or.inl rfl) (pe_D D_h_random_steps (hr.mono (by decide)) (by rfl) pass0 (pa_cons (pv 2) pa_nil)))
        (pss_cons (ps_if (PW.pt (pw_or (pt_not (pt_val (pe_D D_h_reasons_right (hr.mono (by decide)) (by rfl) pass0 (pa_cons (pv 2) (pa_cons (pv 3) pa_nil))))) (pw_or1 (pt_not (pt_val (pe_D D_h_answers_right (hr.mono (by decide)) (by rfl) pass0 (pa_cons (pv 2) (pa_cons (pv 3) pa_nil)))))))) (pss_one (ps_ret pe_bl)) pss_nil)
        (pss_cons (ps_set (i := 4) sc_law.nd rfl (Or.inl rfl) (pe_D D_h_some_objects (hr.mono (by decide)) (by rfl) pass0 (pa_cons (pv 3) pa_nil)))
        (pss_cons (ps_for PassesOwn.never rfl (pi_list (pv 4)) (pg_name (i := 5) sc_law.nd rfl (Or.inr rfl)) (pss_cons (ps_set (i := 6) sc_law.nd rfl (Or.inl rfl) (pe_MP (n := 5) (sp := spShow (⟨C_Chain, C_Ring, C_Through, C_Can, C_Stopped, C_Cannot, C_Always⟩ : Cc)) (mem7 (D_Chain_show.up (by decide)) (D_Ring_show.up (by decide)) (D_Through_show.up (by decide)) (D_Can_show.up (by decide)) (D_Stopped_show.up (by decide)) (D_Cannot_show.up (by decide)) (D_Always_show.up (by decide))) FX.cl (pv 5) (hr.mono (by decide)) pass0))
        (pss_cons (ps_expr (pe_bm PySem.F.plainAttrs_list PySem.F.slot_list_append PySem.F.type_list_append mt_append (pe_MP (n := 5) (sp := spShow (⟨C_Chain, C_Ring, C_Through, C_Can, C_Stopped, C_Cannot, C_Always⟩ : Cc)) (mem7 (D_Chain_show.up (by decide)) (D_Ring_show.up (by decide)) (D_Through_show.up (by decide)) (D_Can_show.up (by decide)) (D_Stopped_show.up (by decide)) (D_Cannot_show.up (by decide)) (D_Always_show.up (by decide))) FX.cl (pv 5) (hr.mono (by decide)) pass0) (pa_cons pe_str pa_nil)))
        (pss_one (ps_if (pt_cmpR (op_neD hr.units) (pe_MP (n := 5) (sp := spShow (⟨C_Chain, C_Ring, C_Through, C_Can, C_Stopped, C_Cannot, C_Always⟩ : Cc)) (mem7 (D_Chain_show.up (by decide)) (D_Ring_show.up (by decide)) (D_Through_show.up (by decide)) (D_Can_show.up (by decide)) (D_Stopped_show.up (by decide)) (D_Cannot_show.up (by decide)) (D_Always_show.up (by decide))) FX.cl (pv 5) (hr.mono (by decide)) pass0) (pv 6) (nomark _)) (pss_one (ps_ret pe_bl)) pss_nil)))))
        (pss_one (ps_for PassesOwn.never rfl (pi_enum (by rfl) T.enumerate (pa_cons (pv 4) pa_nil)) (pg_tup rfl (pgs_cons (pg_name (i := 1) sc_law.nd rfl (Or.inr rfl)) (pgs_cons (pg_name (i := 5) sc_law.nd rfl (Or.inr rfl)) pgs_nil))) (pss_one (ps_if (pt_cmpR (op_neD hr.units) (pe_lc (own := [("_law_other", 7)]) (g := gName 7) (tt := tYes) rfl sc_law.nd (pi_list (pe_D D_h_some_objects (hr.mono (by decide)) (by rfl) pass0 (pa_cons (pv 3) pa_nil))) (blkOk_by (N := ["_law_script", "_law_k", "_law_source_here", "_law_steps", "_law_some", "_law_one", "_law_told", "_law_other", "_law_spot"]) (sc := (defScope s_law)) (by decide +kernel)) (fun _ _ _ _ _ => (pg_name (i := 7) sc_law.nd rfl (Or.inl rfl))) (fun _ _ _ _ _ => pts_nil) (fun _ _ _ _ _ => (pe_cmpR (op_eqP (n := 4) (sp := spEqO (⟨C_Chain, C_Ring, C_Through, C_Can, C_Stopped, C_Cannot, C_Always⟩ : Cc)) FX.eq (mem7 (D_Chain___eq.om.up (by decide)) (D_Ring___eq.om.up (by decide)) (D_Through___eq.om.up (by decide)) (D_Can___eq.om.up (by decide)) (D_Stopped___eq.om.up (by decide)) (D_Cannot___eq.om.up (by decide)) (D_Always___eq.om.up (by decide))) (hr.mono (by decide)) pass0) (pv 7) (pv 5) (nomark _)))) (pe_lc (own := [("_law_spot", 8)]) (g := gName 8) (tt := tYes) rfl sc_law.nd (pi_range1 (by rfl) T.range (pa_cons (pe_callB call_len_seq (by rfl) T.len PySem.boot_len (pa_cons (pv 4) pa_nil)) pa_nil)) (blkOk_by (N := ["_law_script", "_law_k", "_law_source_here", "_law_steps", "_law_some", "_law_one", "_law_told", "_law_other", "_law_spot"]) (sc := (defScope s_law)) (by decide +kernel)) (fun _ _ _ _ _ => (pg_name (i := 8) sc_law.nd rfl (Or.inl rfl))) (fun _ _ _ _ _ => pts_nil) (fun _ _ _ _ _ => (pe_cmpR op_eq (pv 8) (pv 1) (nomark _)))) (nomark _)) (pss_one (ps_ret pe_bl)) pss_nil)))))))))
        (pss_one (ps_ret pe_bl)), ?_⟩
    refine ⟨_, rfl, a, _, rfl, .inl hS, _, _, rfl, _, _, rfl, ?_⟩
    refine ⟨_, rfl, Int.le_trans (by decide) (turns3 _).1, Int.lt_of_le_of_lt (turns3 _).2 (by decide), fun D hD => lcRM (walk_range (lo := 0)) (fun i y H => ∃ p, y = V.ref p ∧ Src H p (3 * i)) (fun i y H H' s ⟨p, e, S⟩ => ⟨p, e, S.same s⟩) ?_ hD (fun _ _ => trivial) ?_ ?_⟩
    · have := (turns3 (ns.map V.int).length).2
      omega
    · rintro i y H5 H6 Nx hi s5 ne ⟨rfl, rfl⟩ N
      refine ⟨rfl, _, rfl, _, rfl, a, ns, i, (by show [V.ref a, V.int (0 + (i : Int))] ++ [] = _; rw [Int.zero_add]; rfl), s5.seq hS, hlen, ?_, fun H1 p s1 np S1 => N _ _ s1 ⟨p, rfl, src_del S1 fun z => ne (z ▸ np)⟩⟩
      have := (turns3 (ns.map V.int).length).2
      omega
    rintro HB ys sB eB fB
    have lys : ys.length ≤ 3 := by
      have := f2_len fB
      rw [List.length_range] at this
      have := (turns3 (ns.map V.int).length).2
      omega
    have SB : Srcs HB ys 9 := fun j y ej => by
      obtain ⟨i, ei, p, e, S⟩ := f2_get fB ej
      have : i < 3 := by
        have := List.mem_range.mp (List.mem_of_getElem? ei)
        have := (turns3 (ns.map V.int).length).2
        omega
      exact ⟨p, e, S.mono (by omega)⟩
    refine ⟨D, rfl, ⟨_, SqL.of eB⟩, for_list (K := K) (a := D) (xs := ys) (fun i σ H' => ∃ v1 v2 v3 v4 v5 v6 v7 v8, σ = [some (.ref a), v1, v2, v3, v4, v5, v6, v7, v8] ∧ H' D = some (.lst ys) ∧ Srcs H' ys (9 + 50 * i)) ⟨_, _, _, _, _, _, _, _, rfl, eB, SB⟩ (fun i σ H' _ ⟨_, _, _, _, _, _, _, _, _, e, _⟩ => SqL.of e) ?_ ?_⟩
    · rintro i y σ H0 hy ⟨v1, v2, v3, v4, v5, v6, v7, v8, rfl, eD, Ss⟩
      obtain ⟨p, rfl, S⟩ := Ss i y hy
      have hi : i < 3 := by
        have := (List.getElem?_eq_some_iff.mp hy).1
        omega
      have nD := srcs_ne eD hy S
      obtain ⟨bb, hbb⟩ : ∃ bb, bb = 9 + 50 * i := ⟨_, rfl⟩
      have hb2 : bb ≤ 120 := by omega
      rw [← hbb] at S Ss
      refine ⟨_, rfl, p, bb, Nb.del H0 p, rfl, S, by omega, del_at, del_same, fun H1 t ss s1 S1 k1 ok => ?_⟩
      refine ⟨_, rfl, _, rfl, p, t, ss, bb + 9, rfl, S1, by omega, k1, ok, fun H2 s2 S2 => ⟨_, rfl, iteF ?_⟩⟩
      have k2 := steps_thru S1 s2 k1
      refine ⟨_, rfl, _, rfl, p, t, ss, bb + 9 + 10, rfl, S2, by omega, k2, ok, fun H3 s3 S3 => ⟨_, rfl, iteF ?_⟩⟩
      have k3 := steps_thru S2 s3 k2
      have f3 := fr_step (fr_step s1 s2) s3
      refine ⟨_, rfl, t, ss, rfl, k3, ok, fun H4 l as s4 n4 e4 fO => ?_⟩
      have oks := ok_obs ok
      have las : as.length = 10 := f2_len fO
      have pick : ∀ {j : Nat} {y : V}, (as.map V.ref)[j]? = some y → ∃ p' o, y = .ref p' ∧ as[j]? = some p' ∧ (obs ss)[j]? = some o ∧ ObAt (⟨C_Chain, C_Ring, C_Through, C_Can, C_Stopped, C_Cannot, C_Always⟩ : Cc) H4 p' o ∧ OkO o := fun {j y} ey => by
        rw [List.getElem?_map] at ey
        cases e : as[j]? with
        | none => rw [e] at ey; cases ey
        | some q =>
          rw [e] at ey
          obtain ⟨o, eo, ho⟩ := f2_getl fO e
          exact ⟨q, o, (Option.some.inj ey).symm, rfl, eo, ho, oks o (List.mem_of_getElem? eo)⟩
      refine ⟨_, rfl, l, rfl, ⟨_, SqL.of e4⟩, for_list (K := K) (a := l) (xs := as.map V.ref) (fun j σ H' => ∃ v1 v5 v6 v7 v8, σ = [some (.ref a), v1, some (.ref p), some (.ref t), some (.ref l), v5, v6, v7, v8] ∧ Same H4 H') ⟨_, _, _, _, _, rfl, Same.refl _⟩ (fun j σ H' _ ⟨_, _, _, _, _, _, s⟩ => SqL.of (s _ _ e4)) ?_ ?_⟩
      · rintro j y σ H5 hy ⟨w1, w5, w6, w7, w8, rfl, s5⟩
        obtain ⟨p', o, rfl, ep, eo, ho4, oo⟩ := pick hy
        have ho := ob_same s5 ho4
        obtain ⟨dx, fs, ei, ls⟩ := ob_ins ho
        have ll := lines_len oo
        refine ⟨_, rfl, p', _, dx, fs, rfl, Cc.mem _ o, ei, ls, p', o, rfl, rfl, ho, oo, fun H6 l6 s6 n6 e6 => ?_⟩
        refine ⟨_, rfl, p', _, dx, fs, rfl, Cc.mem _ o, s6 _ _ ei, ls, p', o, rfl, rfl, ob_same s6 ho, oo, fun H7 l7 s7 n7 e7 => ⟨.inl ⟨rfl, _, SqL.of e7⟩, l7, _, _, rfl, rfl, e7, ?_, ?_⟩⟩
        · rw [List.length_map]
          exact Nat.lt_of_le_of_lt ll (by decide)
        have s8 : Same H6 (upd H7 l7 (.lst ((linesOf o).map V.str ++ [.str "x"]))) := same_at s7 n7
        refine ⟨_, rfl, p', _, dx, fs, rfl, Cc.mem _ o, s8 _ _ (s6 _ _ ei), ls, p', o, rfl, rfl, ob_same s8 (ob_same s6 ho), oo, fun H9 l9 s9 n9 e9 => ⟨_, rfl, ?_⟩⟩
        exact ne_lines (dp_lines e9) (dp_lines (s9 _ _ (s8 _ _ e6))) (fine_lines (lines_ok oo)) (by decide) ⟨_, rfl, iteF ⟨_, _, _, _, _, rfl, s5.trans (s6.trans (s8.trans s9))⟩⟩
      · rintro σ H5 ⟨w1, w5, w6, w7, w8, rfl, s5⟩
        refine ⟨_, rfl, l, _, rfl, SqL.of (s5 _ _ e4), for_it (walk_enum (K := K) (a := l) (xs := as.map V.ref)) (fun j σ H' => ∃ v1 v5 v6 v7 v8, σ = [some (.ref a), v1, some (.ref p), some (.ref t), some (.ref l), v5, v6, v7, v8] ∧ Same H4 H') ⟨_, _, _, _, _, rfl, s5⟩ (fun j σ H' _ ⟨_, _, _, _, _, _, s⟩ => SqL.of (s _ _ e4)) ?_ ?_⟩
        · rintro kk x σ H6 H7 hk ⟨u1, u5, u6, u7, u8, rfl, s6⟩ ⟨tt, y1, y2, rfl, new, rfl, e1, e2⟩
          have ey1 : y1 = .int (kk : Nat) := (Option.some.inj e1).symm
          subst ey1
          obtain ⟨p', o, rfl, ep, eo, ho4, oo⟩ := pick e2
          have s7 := s6.trans (same_new (o := HO.tup [.int (kk : Nat), .ref p']) new)
          refine ⟨tt, [.int (kk : Nat), .ref p'], rfl, .inl (.inl upd_same), rfl, .int (kk : Nat), [.ref p'], rfl, .ref p', [], rfl, rfl, ?_⟩
          have k7 := steps_same (s4.trans s7) k3
          refine ⟨_, rfl, t, ss, rfl, k7, ok, fun Ha la as' sa na ea fA => ?_⟩
          have las' : as'.length = 10 := f2_len fA
          refine ⟨la, rfl, ⟨_, SqL.of ea⟩, fun D2 hD2 => lcM (walk_list (K := K) (a := la) (xs := as'.map V.ref)) (fun i => .bl (decide (i = kk))) (by rw [List.length_map]; omega) hD2 (fun H5 s5 => SqL.of (s5 _ _ ea)) ?_ ?_⟩
          · rintro i y Hi Hj Nx hi' si ⟨rfl, ey⟩ N
            rw [List.getElem?_map] at ey
            obtain ⟨q', eq', rfl⟩ : ∃ q', as'[i]? = some q' ∧ y = .ref q' := by
              cases e : as'[i]? with
              | none => rw [e] at ey; cases ey
              | some q' => rw [e] at ey; exact ⟨q', rfl, (Option.some.inj ey).symm⟩
            obtain ⟨o', eo', ho'⟩ := f2_getl fA eq'
            have ho2 := ob_same si ho'
            have ho1 := ob_same ((s7.trans sa).trans si) ho4
            obtain ⟨dx, fs, ei, _⟩ := ob_ins ho1
            obtain ⟨dx', fs', ei', _⟩ := ob_ins ho2
            have oo' := oks o' (List.mem_of_getElem? eo')
            have m1 := List.mem_of_getElem? eo
            have m2 := List.mem_of_getElem? eo'
            refine ⟨rfl, _, rfl, _, rfl, q', p', _, dx', fs', _, dx, fs, rfl, rfl, Cc.mem _ o', Cc.mem _ o, ei', ei, ?_, ?_⟩
            · refine ⟨q', p', o', o, rfl, rfl, ho2, ho1, oo', oo, obs_eo _ m2 _ m1, fun H' s => ⟨_, rfl, ?_⟩⟩
              rw [obs_dec eo' eo]
              exact N H' s
            · refine ⟨p', q', o, o', rfl, rfl, ho1, ho2, oo, oo', obs_eo _ m1 _ m2, fun H' s => ⟨_, rfl, ?_⟩⟩
              have e3 : decide (o = o') = decide (i = kk) := by
                rw [← obs_dec eo' eo, Bool.eq_iff_iff, decide_eq_true_eq, decide_eq_true_eq]
                exact ⟨Eq.symm, Eq.symm⟩
              rw [e3]
              exact N H' s
          intro Hb sb eb
          have e10 : Hb l = some (.lst (as.map V.ref)) := sb _ _ (sa _ _ (s7 _ _ e4))
          refine ⟨_, rfl, l, _, rfl, .inl (SqL.of e10), ?_⟩
          have l10 : (as.map V.ref).length = 10 := by rw [List.length_map, las]
          have l10' : (as'.map V.ref).length = 10 := by rw [List.length_map, las']
          rw [l10]
          rw [l10', marks_eq] at eb
          refine ⟨_, rfl, by decide, by decide, fun D3 hD3 => lcM (walk_range (lo := 0) (n := 10)) (fun i => .bl (decide (i = kk))) (by decide) hD3 (fun _ _ => trivial) ?_ ?_⟩
          · rintro i y Hi Hj Nx hi' si ⟨rfl, rfl⟩ N
            refine ⟨rfl, _, rfl, _, rfl, rfl, ?_⟩
            rw [dec_nat]
            exact N _ (Same.refl _)
          intro Hc sc ec
          rw [marks_eq] at ec
          refine ne_lines (d := .list (((List.range 10).map fun i => decide (i = kk)).map PyData.bool)) (n := 1) (.lst (SqL.of (sc _ _ eb)) (dp_bls _)) (.lst (SqL.of ec) (dp_bls _)) (fine_bls _) (by decide) ⟨_, rfl, iteF ?_⟩
          exact ⟨_, _, _, _, _, rfl, s7.trans (sa.trans (sb.trans sc))⟩
        · rintro σ H6 ⟨u1, u5, u6, u7, u8, rfl, s6⟩
          have f6 := f3.trans (s4.trans s6)
          have S6 := (S3.same s4).same s6
          exact ⟨_, _, _, _, _, _, _, _, rfl, f6 _ _ (del_keep eD (Ne.symm nD)), srcs_step Ss f6 (S6.mono (show bb + 9 + 10 + 10 ≤ 9 + 50 * (i + 1) by omega)) (by omega)⟩
    · rintro σ H' ⟨v1, v2, v3, v4, v5, v6, v7, v8, rfl, eD, Ss⟩
      exact q H'
end
end K22

set_option Elab.async false
set_option maxRecDepth 100000
set_option maxHeartbeats 8000000
namespace K22
open PySem Nb
open L2 hiding del del_ne del_same
theorem all_mk {l : PySem.W.OpenLaw} {w : World} {K : PySem.W.Frag} {h : Heap} {mg : Str → Option Value} {fa f_law f_h_source f_h_next f_h_pick f_h_mixed f_Chain___init f_Ring___init f_Through___init f_Can___init f_Stopped___init f_Cannot___init f_Always___init f_step_lines f_future_line f_Chain___eq f_Ring___eq f_Can___eq f_Through___eq f_Stopped___eq f_Cannot___eq f_Always___eq f_Can___bool f_Stopped___bool f_Cannot___bool f_Always___bool f_Chain_show f_Ring_show f_Through_show f_Can_show f_Stopped_show f_Cannot_show f_Always_show f_h_random_steps f_h_shown f_h_some_objects f_h_reasons_right f_h_answers_right C_Chain C_Ring C_Through C_Can C_Stopped C_Cannot C_Always C_Reason C_Answer : Addr} (X : K.In h) (G : h.Ns mainGlobals mg) (hfa : mg "law" = some (.ref fa))
    {odh_source anh_source odh_next anh_next odh_pick anh_pick odh_mixed anh_mixed odChain___init anChain___init odRing___init anRing___init odThrough___init anThrough___init odCan___init anCan___init odStopped___init anStopped___init odCannot___init anCannot___init odAlways___init anAlways___init odstep_lines anstep_lines odfuture_line anfuture_line odChain___eq anChain___eq odRing___eq anRing___eq odCan___eq anCan___eq odThrough___eq anThrough___eq odStopped___eq anStopped___eq odCannot___eq anCannot___eq odAlways___eq anAlways___eq odCan___bool anCan___bool odStopped___bool anStopped___bool odCannot___bool anCannot___bool odAlways___bool anAlways___bool odChain_show anChain_show odRing_show anRing_show odThrough_show anThrough_show odCan_show anCan_show odStopped_show anStopped_show odCannot_show anCannot_show odAlways_show anAlways_show odh_random_steps anh_random_steps odh_shown anh_shown odh_some_objects anh_some_objects odh_reasons_right anh_reasons_right odh_answers_right anh_answers_right odlaw anlaw : Option Addr}
    {slh_source slh_next slh_pick slh_mixed slChain___init slRing___init slThrough___init slCan___init slStopped___init slCannot___init slAlways___init slstep_lines slfuture_line slChain___eq slRing___eq slCan___eq slThrough___eq slStopped___eq slCannot___eq slAlways___eq slCan___bool slStopped___bool slCannot___bool slAlways___bool slChain_show slRing_show slThrough_show slCan_show slStopped_show slCannot_show slAlways_show slh_random_steps slh_shown slh_some_objects slh_reasons_right slh_answers_right sllaw : Array (Option Value)}
    {och_source kVh_source dch_source pmh_source cdh_source cth_source och_next kVh_next dch_next pmh_next cdh_next cth_next och_pick kVh_pick dch_pick pmh_pick cdh_pick cth_pick och_mixed kVh_mixed dch_mixed pmh_mixed cdh_mixed cth_mixed ocChain___init kVChain___init dcChain___init pmChain___init cdChain___init ctChain___init ocRing___init kVRing___init dcRing___init pmRing___init cdRing___init ctRing___init ocThrough___init kVThrough___init dcThrough___init pmThrough___init cdThrough___init ctThrough___init ocCan___init kVCan___init dcCan___init pmCan___init cdCan___init ctCan___init ocStopped___init kVStopped___init dcStopped___init pmStopped___init cdStopped___init ctStopped___init ocCannot___init kVCannot___init dcCannot___init pmCannot___init cdCannot___init ctCannot___init ocAlways___init kVAlways___init dcAlways___init pmAlways___init cdAlways___init ctAlways___init ocstep_lines kVstep_lines dcstep_lines pmstep_lines cdstep_lines ctstep_lines ocfuture_line kVfuture_line dcfuture_line pmfuture_line cdfuture_line ctfuture_line ocChain___eq kVChain___eq dcChain___eq pmChain___eq cdChain___eq ctChain___eq ocRing___eq kVRing___eq dcRing___eq pmRing___eq cdRing___eq ctRing___eq ocCan___eq kVCan___eq dcCan___eq pmCan___eq cdCan___eq ctCan___eq ocThrough___eq kVThrough___eq dcThrough___eq pmThrough___eq cdThrough___eq ctThrough___eq ocStopped___eq kVStopped___eq dcStopped___eq pmStopped___eq cdStopped___eq ctStopped___eq ocCannot___eq kVCannot___eq dcCannot___eq pmCannot___eq cdCannot___eq ctCannot___eq ocAlways___eq kVAlways___eq dcAlways___eq pmAlways___eq cdAlways___eq ctAlways___eq ocCan___bool kVCan___bool dcCan___bool pmCan___bool cdCan___bool ctCan___bool ocStopped___bool kVStopped___bool dcStopped___bool pmStopped___bool cdStopped___bool ctStopped___bool ocCannot___bool kVCannot___bool dcCannot___bool pmCannot___bool cdCannot___bool ctCannot___bool ocAlways___bool kVAlways___bool dcAlways___bool pmAlways___bool cdAlways___bool ctAlways___bool ocChain_show kVChain_show dcChain_show pmChain_show cdChain_show ctChain_show ocRing_show kVRing_show dcRing_show pmRing_show cdRing_show ctRing_show ocThrough_show kVThrough_show dcThrough_show pmThrough_show cdThrough_show ctThrough_show ocCan_show kVCan_show dcCan_show pmCan_show cdCan_show ctCan_show ocStopped_show kVStopped_show dcStopped_show pmStopped_show cdStopped_show ctStopped_show ocCannot_show kVCannot_show dcCannot_show pmCannot_show cdCannot_show ctCannot_show ocAlways_show kVAlways_show dcAlways_show pmAlways_show cdAlways_show ctAlways_show och_random_steps kVh_random_steps dch_random_steps pmh_random_steps cdh_random_steps cth_random_steps och_shown kVh_shown dch_shown pmh_shown cdh_shown cth_shown och_some_objects kVh_some_objects dch_some_objects pmh_some_objects cdh_some_objects cth_some_objects och_reasons_right kVh_reasons_right dch_reasons_right pmh_reasons_right cdh_reasons_right cth_reasons_right och_answers_right kVh_answers_right dch_answers_right pmh_answers_right cdh_answers_right cth_answers_right oclaw kVlaw dclaw pmlaw cdlaw ctlaw : Value}
    (a_Chain : PySem.W.nsIn K mainGlobals "Chain" = some (some (.ref C_Chain)))
    (pg_Chain : PySem.W.plainGet K C_Chain Str.empty = true)
    (hd_Chain : PySem.W.hasDictIn K C_Chain = true)
    (po_Chain : PySem.W.plainOver K C_Chain = true)
    (sa_Chain : PySem.W.findIn K (.ref C_Chain) "__setattr__" = some (some (.builtin "object.__setattr__")))
    (nf_Chain_steps : PySem.W.findIn K (.ref C_Chain) "steps" = some none)
    (mk_Chain : PySem.W.makesIn K C_Chain = true)
    (kc_Chain : PySem.W.keepIn K (.ref C_Chain) = true)
    (a_Ring : PySem.W.nsIn K mainGlobals "Ring" = some (some (.ref C_Ring)))
    (pg_Ring : PySem.W.plainGet K C_Ring Str.empty = true)
    (hd_Ring : PySem.W.hasDictIn K C_Ring = true)
    (po_Ring : PySem.W.plainOver K C_Ring = true)
    (sa_Ring : PySem.W.findIn K (.ref C_Ring) "__setattr__" = some (some (.builtin "object.__setattr__")))
    (nf_Ring_steps : PySem.W.findIn K (.ref C_Ring) "steps" = some none)
    (mk_Ring : PySem.W.makesIn K C_Ring = true)
    (kc_Ring : PySem.W.keepIn K (.ref C_Ring) = true)
    (a_Through : PySem.W.nsIn K mainGlobals "Through" = some (some (.ref C_Through)))
    (pg_Through : PySem.W.plainGet K C_Through Str.empty = true)
    (hd_Through : PySem.W.hasDictIn K C_Through = true)
    (po_Through : PySem.W.plainOver K C_Through = true)
    (sa_Through : PySem.W.findIn K (.ref C_Through) "__setattr__" = some (some (.builtin "object.__setattr__")))
    (nf_Through_steps : PySem.W.findIn K (.ref C_Through) "steps" = some none)
    (nf_Through_name : PySem.W.findIn K (.ref C_Through) "name" = some none)
    (mk_Through : PySem.W.makesIn K C_Through = true)
    (kc_Through : PySem.W.keepIn K (.ref C_Through) = true)
    (a_Can : PySem.W.nsIn K mainGlobals "Can" = some (some (.ref C_Can)))
    (pg_Can : PySem.W.plainGet K C_Can Str.empty = true)
    (hd_Can : PySem.W.hasDictIn K C_Can = true)
    (po_Can : PySem.W.plainOver K C_Can = true)
    (sa_Can : PySem.W.findIn K (.ref C_Can) "__setattr__" = some (some (.builtin "object.__setattr__")))
    (nf_Can_future : PySem.W.findIn K (.ref C_Can) "future" = some none)
    (mk_Can : PySem.W.makesIn K C_Can = true)
    (kc_Can : PySem.W.keepIn K (.ref C_Can) = true)
    (a_Stopped : PySem.W.nsIn K mainGlobals "Stopped" = some (some (.ref C_Stopped)))
    (pg_Stopped : PySem.W.plainGet K C_Stopped Str.empty = true)
    (hd_Stopped : PySem.W.hasDictIn K C_Stopped = true)
    (po_Stopped : PySem.W.plainOver K C_Stopped = true)
    (sa_Stopped : PySem.W.findIn K (.ref C_Stopped) "__setattr__" = some (some (.builtin "object.__setattr__")))
    (nf_Stopped_future : PySem.W.findIn K (.ref C_Stopped) "future" = some none)
    (nf_Stopped_name : PySem.W.findIn K (.ref C_Stopped) "name" = some none)
    (mk_Stopped : PySem.W.makesIn K C_Stopped = true)
    (kc_Stopped : PySem.W.keepIn K (.ref C_Stopped) = true)
    (a_Cannot : PySem.W.nsIn K mainGlobals "Cannot" = some (some (.ref C_Cannot)))
    (pg_Cannot : PySem.W.plainGet K C_Cannot Str.empty = true)
    (hd_Cannot : PySem.W.hasDictIn K C_Cannot = true)
    (po_Cannot : PySem.W.plainOver K C_Cannot = true)
    (sa_Cannot : PySem.W.findIn K (.ref C_Cannot) "__setattr__" = some (some (.builtin "object.__setattr__")))
    (nf_Cannot_reason : PySem.W.findIn K (.ref C_Cannot) "reason" = some none)
    (mk_Cannot : PySem.W.makesIn K C_Cannot = true)
    (kc_Cannot : PySem.W.keepIn K (.ref C_Cannot) = true)
    (a_Always : PySem.W.nsIn K mainGlobals "Always" = some (some (.ref C_Always)))
    (pg_Always : PySem.W.plainGet K C_Always Str.empty = true)
    (hd_Always : PySem.W.hasDictIn K C_Always = true)
    (po_Always : PySem.W.plainOver K C_Always = true)
    (sa_Always : PySem.W.findIn K (.ref C_Always) "__setattr__" = some (some (.builtin "object.__setattr__")))
    (nf_Always_reasons : PySem.W.findIn K (.ref C_Always) "reasons" = some none)
    (mk_Always : PySem.W.makesIn K C_Always = true)
    (kc_Always : PySem.W.keepIn K (.ref C_Always) = true)
    (a_Reason : PySem.W.nsIn K mainGlobals "Reason" = some (some (.ref C_Reason)))
    (pg_Reason : PySem.W.plainGet K C_Reason Str.empty = true)
    (hd_Reason : PySem.W.hasDictIn K C_Reason = true)
    (po_Reason : PySem.W.plainOver K C_Reason = true)
    (sa_Reason : PySem.W.findIn K (.ref C_Reason) "__setattr__" = some (some (.builtin "object.__setattr__")))
    (a_Answer : PySem.W.nsIn K mainGlobals "Answer" = some (some (.ref C_Answer)))
    (pg_Answer : PySem.W.plainGet K C_Answer Str.empty = true)
    (hd_Answer : PySem.W.hasDictIn K C_Answer = true)
    (po_Answer : PySem.W.plainOver K C_Answer = true)
    (sa_Answer : PySem.W.findIn K (.ref C_Answer) "__setattr__" = some (some (.builtin "object.__setattr__")))
    (a_h_source : PySem.W.nsIn K mainGlobals "_law_source" = some (some (.ref f_h_source)))
    (l_h_source : K.lookup f_h_source = some ⟨och_source, odh_source, .func (PySem.W.fnOf "_law_source" "_law_source" (defArgs s_h_source) (defBody s_h_source) (defScope s_h_source) .none kVh_source dch_source pmh_source anh_source cdh_source cth_source), slh_source⟩)
    (c_h_source : PySem.W.codeIn K cdh_source "_law_source" = true)
    (k_h_source : PySem.W.keepIn K (.ref f_h_source) = true)
    (a_h_next : PySem.W.nsIn K mainGlobals "_law_next" = some (some (.ref f_h_next)))
    (l_h_next : K.lookup f_h_next = some ⟨och_next, odh_next, .func (PySem.W.fnOf "_law_next" "_law_next" (defArgs s_h_next) (defBody s_h_next) (defScope s_h_next) .none kVh_next dch_next pmh_next anh_next cdh_next cth_next), slh_next⟩)
    (c_h_next : PySem.W.codeIn K cdh_next "_law_next" = true)
    (k_h_next : PySem.W.keepIn K (.ref f_h_next) = true)
    (a_h_pick : PySem.W.nsIn K mainGlobals "_law_pick" = some (some (.ref f_h_pick)))
    (l_h_pick : K.lookup f_h_pick = some ⟨och_pick, odh_pick, .func (PySem.W.fnOf "_law_pick" "_law_pick" (defArgs s_h_pick) (defBody s_h_pick) (defScope s_h_pick) .none kVh_pick dch_pick pmh_pick anh_pick cdh_pick cth_pick), slh_pick⟩)
    (c_h_pick : PySem.W.codeIn K cdh_pick "_law_pick" = true)
    (k_h_pick : PySem.W.keepIn K (.ref f_h_pick) = true)
    (a_h_mixed : PySem.W.nsIn K mainGlobals "_law_mixed" = some (some (.ref f_h_mixed)))
    (l_h_mixed : K.lookup f_h_mixed = some ⟨och_mixed, odh_mixed, .func (PySem.W.fnOf "_law_mixed" "_law_mixed" (defArgs s_h_mixed) (defBody s_h_mixed) (defScope s_h_mixed) .none kVh_mixed dch_mixed pmh_mixed anh_mixed cdh_mixed cth_mixed), slh_mixed⟩)
    (c_h_mixed : PySem.W.codeIn K cdh_mixed "_law_mixed" = true)
    (k_h_mixed : PySem.W.keepIn K (.ref f_h_mixed) = true)
    (a_Chain___init : PySem.W.findIn K (.ref C_Chain) "__init__" = some (some (.ref f_Chain___init)))
    (if_Chain___init : PySem.W.isFn K (.ref f_Chain___init) = true)
    (l_Chain___init : K.lookup f_Chain___init = some ⟨ocChain___init, odChain___init, .func (PySem.W.fnOf "__init__" "Chain.__init__" (defArgs s_Chain___init) (defBody s_Chain___init) (defScope s_Chain___init) .none kVChain___init dcChain___init pmChain___init anChain___init cdChain___init ctChain___init), slChain___init⟩)
    (c_Chain___init : PySem.W.codeIn K cdChain___init "Chain.__init__" = true)
    (k_Chain___init : PySem.W.keepIn K (.ref f_Chain___init) = true)
    (a_Ring___init : PySem.W.findIn K (.ref C_Ring) "__init__" = some (some (.ref f_Ring___init)))
    (if_Ring___init : PySem.W.isFn K (.ref f_Ring___init) = true)
    (l_Ring___init : K.lookup f_Ring___init = some ⟨ocRing___init, odRing___init, .func (PySem.W.fnOf "__init__" "Ring.__init__" (defArgs s_Ring___init) (defBody s_Ring___init) (defScope s_Ring___init) .none kVRing___init dcRing___init pmRing___init anRing___init cdRing___init ctRing___init), slRing___init⟩)
    (c_Ring___init : PySem.W.codeIn K cdRing___init "Ring.__init__" = true)
    (k_Ring___init : PySem.W.keepIn K (.ref f_Ring___init) = true)
    (a_Through___init : PySem.W.findIn K (.ref C_Through) "__init__" = some (some (.ref f_Through___init)))
    (if_Through___init : PySem.W.isFn K (.ref f_Through___init) = true)
    (l_Through___init : K.lookup f_Through___init = some ⟨ocThrough___init, odThrough___init, .func (PySem.W.fnOf "__init__" "Through.__init__" (defArgs s_Through___init) (defBody s_Through___init) (defScope s_Through___init) .none kVThrough___init dcThrough___init pmThrough___init anThrough___init cdThrough___init ctThrough___init), slThrough___init⟩)
    (c_Through___init : PySem.W.codeIn K cdThrough___init "Through.__init__" = true)
    (k_Through___init : PySem.W.keepIn K (.ref f_Through___init) = true)
    (a_Can___init : PySem.W.findIn K (.ref C_Can) "__init__" = some (some (.ref f_Can___init)))
    (if_Can___init : PySem.W.isFn K (.ref f_Can___init) = true)
    (l_Can___init : K.lookup f_Can___init = some ⟨ocCan___init, odCan___init, .func (PySem.W.fnOf "__init__" "Can.__init__" (defArgs s_Can___init) (defBody s_Can___init) (defScope s_Can___init) .none kVCan___init dcCan___init pmCan___init anCan___init cdCan___init ctCan___init), slCan___init⟩)
    (c_Can___init : PySem.W.codeIn K cdCan___init "Can.__init__" = true)
    (k_Can___init : PySem.W.keepIn K (.ref f_Can___init) = true)
    (a_Stopped___init : PySem.W.findIn K (.ref C_Stopped) "__init__" = some (some (.ref f_Stopped___init)))
    (if_Stopped___init : PySem.W.isFn K (.ref f_Stopped___init) = true)
    (l_Stopped___init : K.lookup f_Stopped___init = some ⟨ocStopped___init, odStopped___init, .func (PySem.W.fnOf "__init__" "Stopped.__init__" (defArgs s_Stopped___init) (defBody s_Stopped___init) (defScope s_Stopped___init) .none kVStopped___init dcStopped___init pmStopped___init anStopped___init cdStopped___init ctStopped___init), slStopped___init⟩)
    (c_Stopped___init : PySem.W.codeIn K cdStopped___init "Stopped.__init__" = true)
    (k_Stopped___init : PySem.W.keepIn K (.ref f_Stopped___init) = true)
    (a_Cannot___init : PySem.W.findIn K (.ref C_Cannot) "__init__" = some (some (.ref f_Cannot___init)))
    (if_Cannot___init : PySem.W.isFn K (.ref f_Cannot___init) = true)
    (l_Cannot___init : K.lookup f_Cannot___init = some ⟨ocCannot___init, odCannot___init, .func (PySem.W.fnOf "__init__" "Cannot.__init__" (defArgs s_Cannot___init) (defBody s_Cannot___init) (defScope s_Cannot___init) .none kVCannot___init dcCannot___init pmCannot___init anCannot___init cdCannot___init ctCannot___init), slCannot___init⟩)
    (c_Cannot___init : PySem.W.codeIn K cdCannot___init "Cannot.__init__" = true)
    (k_Cannot___init : PySem.W.keepIn K (.ref f_Cannot___init) = true)
    (a_Always___init : PySem.W.findIn K (.ref C_Always) "__init__" = some (some (.ref f_Always___init)))
    (if_Always___init : PySem.W.isFn K (.ref f_Always___init) = true)
    (l_Always___init : K.lookup f_Always___init = some ⟨ocAlways___init, odAlways___init, .func (PySem.W.fnOf "__init__" "Always.__init__" (defArgs s_Always___init) (defBody s_Always___init) (defScope s_Always___init) .none kVAlways___init dcAlways___init pmAlways___init anAlways___init cdAlways___init ctAlways___init), slAlways___init⟩)
    (c_Always___init : PySem.W.codeIn K cdAlways___init "Always.__init__" = true)
    (k_Always___init : PySem.W.keepIn K (.ref f_Always___init) = true)
    (a_step_lines : PySem.W.nsIn K mainGlobals "_step_lines" = some (some (.ref f_step_lines)))
    (l_step_lines : K.lookup f_step_lines = some ⟨ocstep_lines, odstep_lines, .func (PySem.W.fnOf "_step_lines" "_step_lines" (defArgs s_step_lines) (defBody s_step_lines) (defScope s_step_lines) .none kVstep_lines dcstep_lines pmstep_lines anstep_lines cdstep_lines ctstep_lines), slstep_lines⟩)
    (c_step_lines : PySem.W.codeIn K cdstep_lines "_step_lines" = true)
    (k_step_lines : PySem.W.keepIn K (.ref f_step_lines) = true)
    (a_future_line : PySem.W.nsIn K mainGlobals "_future_line" = some (some (.ref f_future_line)))
    (l_future_line : K.lookup f_future_line = some ⟨ocfuture_line, odfuture_line, .func (PySem.W.fnOf "_future_line" "_future_line" (defArgs s_future_line) (defBody s_future_line) (defScope s_future_line) .none kVfuture_line dcfuture_line pmfuture_line anfuture_line cdfuture_line ctfuture_line), slfuture_line⟩)
    (c_future_line : PySem.W.codeIn K cdfuture_line "_future_line" = true)
    (k_future_line : PySem.W.keepIn K (.ref f_future_line) = true)
    (a_Chain___eq : PySem.W.findIn K (.ref C_Chain) "__eq__" = some (some (.ref f_Chain___eq)))
    (if_Chain___eq : PySem.W.isFn K (.ref f_Chain___eq) = true)
    (l_Chain___eq : K.lookup f_Chain___eq = some ⟨ocChain___eq, odChain___eq, .func (PySem.W.fnOf "__eq__" "Chain.__eq__" (defArgs s_Chain___eq) (defBody s_Chain___eq) (defScope s_Chain___eq) .none kVChain___eq dcChain___eq pmChain___eq anChain___eq cdChain___eq ctChain___eq), slChain___eq⟩)
    (c_Chain___eq : PySem.W.codeIn K cdChain___eq "Chain.__eq__" = true)
    (k_Chain___eq : PySem.W.keepIn K (.ref f_Chain___eq) = true)
    (a_Ring___eq : PySem.W.findIn K (.ref C_Ring) "__eq__" = some (some (.ref f_Ring___eq)))
    (if_Ring___eq : PySem.W.isFn K (.ref f_Ring___eq) = true)
    (l_Ring___eq : K.lookup f_Ring___eq = some ⟨ocRing___eq, odRing___eq, .func (PySem.W.fnOf "__eq__" "Ring.__eq__" (defArgs s_Ring___eq) (defBody s_Ring___eq) (defScope s_Ring___eq) .none kVRing___eq dcRing___eq pmRing___eq anRing___eq cdRing___eq ctRing___eq), slRing___eq⟩)
    (c_Ring___eq : PySem.W.codeIn K cdRing___eq "Ring.__eq__" = true)
    (k_Ring___eq : PySem.W.keepIn K (.ref f_Ring___eq) = true)
    (a_Can___eq : PySem.W.findIn K (.ref C_Can) "__eq__" = some (some (.ref f_Can___eq)))
    (if_Can___eq : PySem.W.isFn K (.ref f_Can___eq) = true)
    (l_Can___eq : K.lookup f_Can___eq = some ⟨ocCan___eq, odCan___eq, .func (PySem.W.fnOf "__eq__" "Can.__eq__" (defArgs s_Can___eq) (defBody s_Can___eq) (defScope s_Can___eq) .none kVCan___eq dcCan___eq pmCan___eq anCan___eq cdCan___eq ctCan___eq), slCan___eq⟩)
    (c_Can___eq : PySem.W.codeIn K cdCan___eq "Can.__eq__" = true)
    (k_Can___eq : PySem.W.keepIn K (.ref f_Can___eq) = true)
    (a_Through___eq : PySem.W.findIn K (.ref C_Through) "__eq__" = some (some (.ref f_Through___eq)))
    (if_Through___eq : PySem.W.isFn K (.ref f_Through___eq) = true)
    (l_Through___eq : K.lookup f_Through___eq = some ⟨ocThrough___eq, odThrough___eq, .func (PySem.W.fnOf "__eq__" "Through.__eq__" (defArgs s_Through___eq) (defBody s_Through___eq) (defScope s_Through___eq) .none kVThrough___eq dcThrough___eq pmThrough___eq anThrough___eq cdThrough___eq ctThrough___eq), slThrough___eq⟩)
    (c_Through___eq : PySem.W.codeIn K cdThrough___eq "Through.__eq__" = true)
    (k_Through___eq : PySem.W.keepIn K (.ref f_Through___eq) = true)
    (a_Stopped___eq : PySem.W.findIn K (.ref C_Stopped) "__eq__" = some (some (.ref f_Stopped___eq)))
    (if_Stopped___eq : PySem.W.isFn K (.ref f_Stopped___eq) = true)
    (l_Stopped___eq : K.lookup f_Stopped___eq = some ⟨ocStopped___eq, odStopped___eq, .func (PySem.W.fnOf "__eq__" "Stopped.__eq__" (defArgs s_Stopped___eq) (defBody s_Stopped___eq) (defScope s_Stopped___eq) .none kVStopped___eq dcStopped___eq pmStopped___eq anStopped___eq cdStopped___eq ctStopped___eq), slStopped___eq⟩)
    (c_Stopped___eq : PySem.W.codeIn K cdStopped___eq "Stopped.__eq__" = true)
    (k_Stopped___eq : PySem.W.keepIn K (.ref f_Stopped___eq) = true)
    (a_Cannot___eq : PySem.W.findIn K (.ref C_Cannot) "__eq__" = some (some (.ref f_Cannot___eq)))
    (if_Cannot___eq : PySem.W.isFn K (.ref f_Cannot___eq) = true)
    (l_Cannot___eq : K.lookup f_Cannot___eq = some ⟨ocCannot___eq, odCannot___eq, .func (PySem.W.fnOf "__eq__" "Cannot.__eq__" (defArgs s_Cannot___eq) (defBody s_Cannot___eq) (defScope s_Cannot___eq) .none kVCannot___eq dcCannot___eq pmCannot___eq anCannot___eq cdCannot___eq ctCannot___eq), slCannot___eq⟩)
    (c_Cannot___eq : PySem.W.codeIn K cdCannot___eq "Cannot.__eq__" = true)
    (k_Cannot___eq : PySem.W.keepIn K (.ref f_Cannot___eq) = true)
    (a_Always___eq : PySem.W.findIn K (.ref C_Always) "__eq__" = some (some (.ref f_Always___eq)))
    (if_Always___eq : PySem.W.isFn K (.ref f_Always___eq) = true)
    (l_Always___eq : K.lookup f_Always___eq = some ⟨ocAlways___eq, odAlways___eq, .func (PySem.W.fnOf "__eq__" "Always.__eq__" (defArgs s_Always___eq) (defBody s_Always___eq) (defScope s_Always___eq) .none kVAlways___eq dcAlways___eq pmAlways___eq anAlways___eq cdAlways___eq ctAlways___eq), slAlways___eq⟩)
    (c_Always___eq : PySem.W.codeIn K cdAlways___eq "Always.__eq__" = true)
    (k_Always___eq : PySem.W.keepIn K (.ref f_Always___eq) = true)
    (a_Can___bool : PySem.W.findIn K (.ref C_Can) "__bool__" = some (some (.ref f_Can___bool)))
    (if_Can___bool : PySem.W.isFn K (.ref f_Can___bool) = true)
    (l_Can___bool : K.lookup f_Can___bool = some ⟨ocCan___bool, odCan___bool, .func (PySem.W.fnOf "__bool__" "Can.__bool__" (defArgs s_Can___bool) (defBody s_Can___bool) (defScope s_Can___bool) .none kVCan___bool dcCan___bool pmCan___bool anCan___bool cdCan___bool ctCan___bool), slCan___bool⟩)
    (c_Can___bool : PySem.W.codeIn K cdCan___bool "Can.__bool__" = true)
    (k_Can___bool : PySem.W.keepIn K (.ref f_Can___bool) = true)
    (a_Stopped___bool : PySem.W.findIn K (.ref C_Stopped) "__bool__" = some (some (.ref f_Stopped___bool)))
    (if_Stopped___bool : PySem.W.isFn K (.ref f_Stopped___bool) = true)
    (l_Stopped___bool : K.lookup f_Stopped___bool = some ⟨ocStopped___bool, odStopped___bool, .func (PySem.W.fnOf "__bool__" "Stopped.__bool__" (defArgs s_Stopped___bool) (defBody s_Stopped___bool) (defScope s_Stopped___bool) .none kVStopped___bool dcStopped___bool pmStopped___bool anStopped___bool cdStopped___bool ctStopped___bool), slStopped___bool⟩)
    (c_Stopped___bool : PySem.W.codeIn K cdStopped___bool "Stopped.__bool__" = true)
    (k_Stopped___bool : PySem.W.keepIn K (.ref f_Stopped___bool) = true)
    (a_Cannot___bool : PySem.W.findIn K (.ref C_Cannot) "__bool__" = some (some (.ref f_Cannot___bool)))
    (if_Cannot___bool : PySem.W.isFn K (.ref f_Cannot___bool) = true)
    (l_Cannot___bool : K.lookup f_Cannot___bool = some ⟨ocCannot___bool, odCannot___bool, .func (PySem.W.fnOf "__bool__" "Cannot.__bool__" (defArgs s_Cannot___bool) (defBody s_Cannot___bool) (defScope s_Cannot___bool) .none kVCannot___bool dcCannot___bool pmCannot___bool anCannot___bool cdCannot___bool ctCannot___bool), slCannot___bool⟩)
    (c_Cannot___bool : PySem.W.codeIn K cdCannot___bool "Cannot.__bool__" = true)
    (k_Cannot___bool : PySem.W.keepIn K (.ref f_Cannot___bool) = true)
    (a_Always___bool : PySem.W.findIn K (.ref C_Always) "__bool__" = some (some (.ref f_Always___bool)))
    (if_Always___bool : PySem.W.isFn K (.ref f_Always___bool) = true)
    (l_Always___bool : K.lookup f_Always___bool = some ⟨ocAlways___bool, odAlways___bool, .func (PySem.W.fnOf "__bool__" "Always.__bool__" (defArgs s_Always___bool) (defBody s_Always___bool) (defScope s_Always___bool) .none kVAlways___bool dcAlways___bool pmAlways___bool anAlways___bool cdAlways___bool ctAlways___bool), slAlways___bool⟩)
    (c_Always___bool : PySem.W.codeIn K cdAlways___bool "Always.__bool__" = true)
    (k_Always___bool : PySem.W.keepIn K (.ref f_Always___bool) = true)
    (a_Chain_show : PySem.W.findIn K (.ref C_Chain) "show" = some (some (.ref f_Chain_show)))
    (if_Chain_show : PySem.W.isFn K (.ref f_Chain_show) = true)
    (l_Chain_show : K.lookup f_Chain_show = some ⟨ocChain_show, odChain_show, .func (PySem.W.fnOf "show" "Chain.show" (defArgs s_Chain_show) (defBody s_Chain_show) (defScope s_Chain_show) .none kVChain_show dcChain_show pmChain_show anChain_show cdChain_show ctChain_show), slChain_show⟩)
    (c_Chain_show : PySem.W.codeIn K cdChain_show "Chain.show" = true)
    (k_Chain_show : PySem.W.keepIn K (.ref f_Chain_show) = true)
    (a_Ring_show : PySem.W.findIn K (.ref C_Ring) "show" = some (some (.ref f_Ring_show)))
    (if_Ring_show : PySem.W.isFn K (.ref f_Ring_show) = true)
    (l_Ring_show : K.lookup f_Ring_show = some ⟨ocRing_show, odRing_show, .func (PySem.W.fnOf "show" "Ring.show" (defArgs s_Ring_show) (defBody s_Ring_show) (defScope s_Ring_show) .none kVRing_show dcRing_show pmRing_show anRing_show cdRing_show ctRing_show), slRing_show⟩)
    (c_Ring_show : PySem.W.codeIn K cdRing_show "Ring.show" = true)
    (k_Ring_show : PySem.W.keepIn K (.ref f_Ring_show) = true)
    (a_Through_show : PySem.W.findIn K (.ref C_Through) "show" = some (some (.ref f_Through_show)))
    (if_Through_show : PySem.W.isFn K (.ref f_Through_show) = true)
    (l_Through_show : K.lookup f_Through_show = some ⟨ocThrough_show, odThrough_show, .func (PySem.W.fnOf "show" "Through.show" (defArgs s_Through_show) (defBody s_Through_show) (defScope s_Through_show) .none kVThrough_show dcThrough_show pmThrough_show anThrough_show cdThrough_show ctThrough_show), slThrough_show⟩)
    (c_Through_show : PySem.W.codeIn K cdThrough_show "Through.show" = true)
    (k_Through_show : PySem.W.keepIn K (.ref f_Through_show) = true)
    (a_Can_show : PySem.W.findIn K (.ref C_Can) "show" = some (some (.ref f_Can_show)))
    (if_Can_show : PySem.W.isFn K (.ref f_Can_show) = true)
    (l_Can_show : K.lookup f_Can_show = some ⟨ocCan_show, odCan_show, .func (PySem.W.fnOf "show" "Can.show" (defArgs s_Can_show) (defBody s_Can_show) (defScope s_Can_show) .none kVCan_show dcCan_show pmCan_show anCan_show cdCan_show ctCan_show), slCan_show⟩)
    (c_Can_show : PySem.W.codeIn K cdCan_show "Can.show" = true)
    (k_Can_show : PySem.W.keepIn K (.ref f_Can_show) = true)
    (a_Stopped_show : PySem.W.findIn K (.ref C_Stopped) "show" = some (some (.ref f_Stopped_show)))
    (if_Stopped_show : PySem.W.isFn K (.ref f_Stopped_show) = true)
    (l_Stopped_show : K.lookup f_Stopped_show = some ⟨ocStopped_show, odStopped_show, .func (PySem.W.fnOf "show" "Stopped.show" (defArgs s_Stopped_show) (defBody s_Stopped_show) (defScope s_Stopped_show) .none kVStopped_show dcStopped_show pmStopped_show anStopped_show cdStopped_show ctStopped_show), slStopped_show⟩)
    (c_Stopped_show : PySem.W.codeIn K cdStopped_show "Stopped.show" = true)
    (k_Stopped_show : PySem.W.keepIn K (.ref f_Stopped_show) = true)
    (a_Cannot_show : PySem.W.findIn K (.ref C_Cannot) "show" = some (some (.ref f_Cannot_show)))
    (if_Cannot_show : PySem.W.isFn K (.ref f_Cannot_show) = true)
    (l_Cannot_show : K.lookup f_Cannot_show = some ⟨ocCannot_show, odCannot_show, .func (PySem.W.fnOf "show" "Cannot.show" (defArgs s_Cannot_show) (defBody s_Cannot_show) (defScope s_Cannot_show) .none kVCannot_show dcCannot_show pmCannot_show anCannot_show cdCannot_show ctCannot_show), slCannot_show⟩)
    (c_Cannot_show : PySem.W.codeIn K cdCannot_show "Cannot.show" = true)
    (k_Cannot_show : PySem.W.keepIn K (.ref f_Cannot_show) = true)
    (a_Always_show : PySem.W.findIn K (.ref C_Always) "show" = some (some (.ref f_Always_show)))
    (if_Always_show : PySem.W.isFn K (.ref f_Always_show) = true)
    (l_Always_show : K.lookup f_Always_show = some ⟨ocAlways_show, odAlways_show, .func (PySem.W.fnOf "show" "Always.show" (defArgs s_Always_show) (defBody s_Always_show) (defScope s_Always_show) .none kVAlways_show dcAlways_show pmAlways_show anAlways_show cdAlways_show ctAlways_show), slAlways_show⟩)
    (c_Always_show : PySem.W.codeIn K cdAlways_show "Always.show" = true)
    (k_Always_show : PySem.W.keepIn K (.ref f_Always_show) = true)
    (a_h_random_steps : PySem.W.nsIn K mainGlobals "_law_random_steps" = some (some (.ref f_h_random_steps)))
    (l_h_random_steps : K.lookup f_h_random_steps = some ⟨och_random_steps, odh_random_steps, .func (PySem.W.fnOf "_law_random_steps" "_law_random_steps" (defArgs s_h_random_steps) (defBody s_h_random_steps) (defScope s_h_random_steps) .none kVh_random_steps dch_random_steps pmh_random_steps anh_random_steps cdh_random_steps cth_random_steps), slh_random_steps⟩)
    (c_h_random_steps : PySem.W.codeIn K cdh_random_steps "_law_random_steps" = true)
    (k_h_random_steps : PySem.W.keepIn K (.ref f_h_random_steps) = true)
    (a_h_shown : PySem.W.nsIn K mainGlobals "_law_shown" = some (some (.ref f_h_shown)))
    (l_h_shown : K.lookup f_h_shown = some ⟨och_shown, odh_shown, .func (PySem.W.fnOf "_law_shown" "_law_shown" (defArgs s_h_shown) (defBody s_h_shown) (defScope s_h_shown) .none kVh_shown dch_shown pmh_shown anh_shown cdh_shown cth_shown), slh_shown⟩)
    (c_h_shown : PySem.W.codeIn K cdh_shown "_law_shown" = true)
    (k_h_shown : PySem.W.keepIn K (.ref f_h_shown) = true)
    (a_h_some_objects : PySem.W.nsIn K mainGlobals "_law_some_objects" = some (some (.ref f_h_some_objects)))
    (l_h_some_objects : K.lookup f_h_some_objects = some ⟨och_some_objects, odh_some_objects, .func (PySem.W.fnOf "_law_some_objects" "_law_some_objects" (defArgs s_h_some_objects) (defBody s_h_some_objects) (defScope s_h_some_objects) .none kVh_some_objects dch_some_objects pmh_some_objects anh_some_objects cdh_some_objects cth_some_objects), slh_some_objects⟩)
    (c_h_some_objects : PySem.W.codeIn K cdh_some_objects "_law_some_objects" = true)
    (k_h_some_objects : PySem.W.keepIn K (.ref f_h_some_objects) = true)
    (a_h_reasons_right : PySem.W.nsIn K mainGlobals "_law_reasons_right" = some (some (.ref f_h_reasons_right)))
    (l_h_reasons_right : K.lookup f_h_reasons_right = some ⟨och_reasons_right, odh_reasons_right, .func (PySem.W.fnOf "_law_reasons_right" "_law_reasons_right" (defArgs s_h_reasons_right) (defBody s_h_reasons_right) (defScope s_h_reasons_right) .none kVh_reasons_right dch_reasons_right pmh_reasons_right anh_reasons_right cdh_reasons_right cth_reasons_right), slh_reasons_right⟩)
    (c_h_reasons_right : PySem.W.codeIn K cdh_reasons_right "_law_reasons_right" = true)
    (k_h_reasons_right : PySem.W.keepIn K (.ref f_h_reasons_right) = true)
    (a_h_answers_right : PySem.W.nsIn K mainGlobals "_law_answers_right" = some (some (.ref f_h_answers_right)))
    (l_h_answers_right : K.lookup f_h_answers_right = some ⟨och_answers_right, odh_answers_right, .func (PySem.W.fnOf "_law_answers_right" "_law_answers_right" (defArgs s_h_answers_right) (defBody s_h_answers_right) (defScope s_h_answers_right) .none kVh_answers_right dch_answers_right pmh_answers_right anh_answers_right cdh_answers_right cth_answers_right), slh_answers_right⟩)
    (c_h_answers_right : PySem.W.codeIn K cdh_answers_right "_law_answers_right" = true)
    (k_h_answers_right : PySem.W.keepIn K (.ref f_h_answers_right) = true)
    (a_law : PySem.W.nsIn K mainGlobals "law" = some (some (.ref f_law)))
    (l_law : K.lookup f_law = some ⟨oclaw, odlaw, .func (PySem.W.fnOf "law" "law" (defArgs s_law) (defBody s_law) (defScope s_law) .none kVlaw dclaw pmlaw anlaw cdlaw ctlaw), sllaw⟩)
    (c_law : PySem.W.codeIn K cdlaw "law" = true)
    (k_law : PySem.W.keepIn K (.ref f_law) = true)
    (z_len : PySem.W.nsIn K mainGlobals "len" = some none)
    (z_isinstance : PySem.W.nsIn K mainGlobals "isinstance" = some none)
    (z_type : PySem.W.nsIn K mainGlobals "type" = some none)
    (z_tuple : PySem.W.nsIn K mainGlobals "tuple" = some none)
    (z_list : PySem.W.nsIn K mainGlobals "list" = some none)
    (z_range : PySem.W.nsIn K mainGlobals "range" = some none)
    (z_max : PySem.W.nsIn K mainGlobals "max" = some none)
    (z_min : PySem.W.nsIn K mainGlobals "min" = some none)
    (z_bool : PySem.W.nsIn K mainGlobals "bool" = some none)
    (z_enumerate : PySem.W.nsIn K mainGlobals "enumerate" = some none)
    (z_str : PySem.W.nsIn K mainGlobals "str" = some none)
    (nodB : decide ([C_Chain, C_Ring, C_Through, C_Can, C_Stopped, C_Cannot, C_Always].Nodup) = true)
    (eqb : eqsB K [C_Chain, C_Ring, C_Through, C_Can, C_Stopped, C_Cannot, C_Always] = true)
    (isb : isfB K (⟨C_Chain, C_Ring, C_Through, C_Can, C_Stopped, C_Cannot, C_Always⟩ : Cc) = true)
    (kRC : PySem.W.kitOne K (.ref C_Ring) (.ref C_Chain) = some true)
    (kTC : PySem.W.kitOne K (.ref C_Through) (.ref C_Chain) = some true)
    (kCR : PySem.W.kitOne K (.ref C_Chain) (.ref C_Ring) = some false)
    (kRR : PySem.W.kitOne K (.ref C_Ring) (.ref C_Reason) = some true)
    (kA1 : PySem.W.kitOne K (.ref C_Can) (.ref C_Can) = some true)
    (kA2 : PySem.W.kitOne K (.ref C_Stopped) (.ref C_Can) = some true)
    (kN1 : PySem.W.kitOne K (.ref C_Cannot) (.ref C_Can) = some false)
    (kN2 : PySem.W.kitOne K (.ref C_Always) (.ref C_Can) = some false)
    (kCA : PySem.W.kitOne K (.ref C_Cannot) (.ref C_Answer) = some true) :
    ∃ fd : FuncData, (∀ (s : Shared) (v : Value), BindsTo s fd ⟨[v], []⟩ [("_law_script", v)]) ∧ ∀ base : Heap, K.In base → base.Ns mainGlobals mg → FnOk l.prog w K mg base CX0 9 fa fd ["_law_script"] (spLaw0 K) := by
  have e := hfa.symm.trans (PySem.W.mg_of X G a_law)
  cases e
  have F_h_source := fun_mk (st := s_h_source) l_h_source c_h_source k_h_source
  have b_h_source := F_h_source.binds (ps := ["_law_script", "_law_k"]) fun _ _ _ _ _ _ us hl => match us, hl with | [_, _], _ => rfl
  have F_h_next := fun_mk (st := s_h_next) l_h_next c_h_next k_h_next
  have b_h_next := F_h_next.binds (ps := ["_law_source_here", "_law_many"]) fun _ _ _ _ _ _ us hl => match us, hl with | [_, _], _ => rfl
  have F_h_pick := fun_mk (st := s_h_pick) l_h_pick c_h_pick k_h_pick
  have b_h_pick := F_h_pick.binds (ps := ["_law_source_here", "_law_items"]) fun _ _ _ _ _ _ us hl => match us, hl with | [_, _], _ => rfl
  have F_h_mixed := fun_mk (st := s_h_mixed) l_h_mixed c_h_mixed k_h_mixed
  have b_h_mixed := F_h_mixed.binds (ps := ["_law_source_here", "_law_items"]) fun _ _ _ _ _ _ us hl => match us, hl with | [_, _], _ => rfl
  have F_Chain___init := fun_mk (st := s_Chain___init) l_Chain___init c_Chain___init k_Chain___init
  have b_Chain___init := F_Chain___init.binds (ps := ["self", "steps"]) fun _ _ _ _ _ _ us hl => match us, hl with | [_, _], _ => rfl
  have F_Ring___init := fun_mk (st := s_Ring___init) l_Ring___init c_Ring___init k_Ring___init
  have b_Ring___init := F_Ring___init.binds (ps := ["self", "steps"]) fun _ _ _ _ _ _ us hl => match us, hl with | [_, _], _ => rfl
  have F_Through___init := fun_mk (st := s_Through___init) l_Through___init c_Through___init k_Through___init
  have b_Through___init := F_Through___init.binds (ps := ["self", "steps", "name"]) fun _ _ _ _ _ _ us hl => match us, hl with | [_, _, _], _ => rfl
  have F_Can___init := fun_mk (st := s_Can___init) l_Can___init c_Can___init k_Can___init
  have b_Can___init := F_Can___init.binds (ps := ["self", "future"]) fun _ _ _ _ _ _ us hl => match us, hl with | [_, _], _ => rfl
  have F_Stopped___init := fun_mk (st := s_Stopped___init) l_Stopped___init c_Stopped___init k_Stopped___init
  have b_Stopped___init := F_Stopped___init.binds (ps := ["self", "future", "name"]) fun _ _ _ _ _ _ us hl => match us, hl with | [_, _, _], _ => rfl
  have F_Cannot___init := fun_mk (st := s_Cannot___init) l_Cannot___init c_Cannot___init k_Cannot___init
  have b_Cannot___init := F_Cannot___init.binds (ps := ["self", "reason"]) fun _ _ _ _ _ _ us hl => match us, hl with | [_, _], _ => rfl
  have F_Always___init := fun_mk (st := s_Always___init) l_Always___init c_Always___init k_Always___init
  have b_Always___init := F_Always___init.binds (ps := ["self", "reasons"]) fun _ _ _ _ _ _ us hl => match us, hl with | [_, _], _ => rfl
  have F_step_lines := fun_mk (st := s_step_lines) l_step_lines c_step_lines k_step_lines
  have b_step_lines := F_step_lines.binds (ps := ["chain"]) fun _ _ _ _ _ _ us hl => match us, hl with | [_], _ => rfl
  have F_future_line := fun_mk (st := s_future_line) l_future_line c_future_line k_future_line
  have b_future_line := F_future_line.binds (ps := ["answer"]) fun _ _ _ _ _ _ us hl => match us, hl with | [_], _ => rfl
  have F_Chain___eq := fun_mk (st := s_Chain___eq) l_Chain___eq c_Chain___eq k_Chain___eq
  have b_Chain___eq := F_Chain___eq.binds (ps := ["self", "other"]) fun _ _ _ _ _ _ us hl => match us, hl with | [_, _], _ => rfl
  have F_Ring___eq := fun_mk (st := s_Ring___eq) l_Ring___eq c_Ring___eq k_Ring___eq
  have b_Ring___eq := F_Ring___eq.binds (ps := ["self", "other"]) fun _ _ _ _ _ _ us hl => match us, hl with | [_, _], _ => rfl
  have F_Can___eq := fun_mk (st := s_Can___eq) l_Can___eq c_Can___eq k_Can___eq
  have b_Can___eq := F_Can___eq.binds (ps := ["self", "other"]) fun _ _ _ _ _ _ us hl => match us, hl with | [_, _], _ => rfl
  have F_Through___eq := fun_mk (st := s_Through___eq) l_Through___eq c_Through___eq k_Through___eq
  have b_Through___eq := F_Through___eq.binds (ps := ["self", "other"]) fun _ _ _ _ _ _ us hl => match us, hl with | [_, _], _ => rfl
  have F_Stopped___eq := fun_mk (st := s_Stopped___eq) l_Stopped___eq c_Stopped___eq k_Stopped___eq
  have b_Stopped___eq := F_Stopped___eq.binds (ps := ["self", "other"]) fun _ _ _ _ _ _ us hl => match us, hl with | [_, _], _ => rfl
  have F_Cannot___eq := fun_mk (st := s_Cannot___eq) l_Cannot___eq c_Cannot___eq k_Cannot___eq
  have b_Cannot___eq := F_Cannot___eq.binds (ps := ["self", "other"]) fun _ _ _ _ _ _ us hl => match us, hl with | [_, _], _ => rfl
  have F_Always___eq := fun_mk (st := s_Always___eq) l_Always___eq c_Always___eq k_Always___eq
  have b_Always___eq := F_Always___eq.binds (ps := ["self", "other"]) fun _ _ _ _ _ _ us hl => match us, hl with | [_, _], _ => rfl
  have F_Can___bool := fun_mk (st := s_Can___bool) l_Can___bool c_Can___bool k_Can___bool
  have b_Can___bool := F_Can___bool.binds (ps := ["self"]) fun _ _ _ _ _ _ us hl => match us, hl with | [_], _ => rfl
  have F_Stopped___bool := fun_mk (st := s_Stopped___bool) l_Stopped___bool c_Stopped___bool k_Stopped___bool
  have b_Stopped___bool := F_Stopped___bool.binds (ps := ["self"]) fun _ _ _ _ _ _ us hl => match us, hl with | [_], _ => rfl
  have F_Cannot___bool := fun_mk (st := s_Cannot___bool) l_Cannot___bool c_Cannot___bool k_Cannot___bool
  have b_Cannot___bool := F_Cannot___bool.binds (ps := ["self"]) fun _ _ _ _ _ _ us hl => match us, hl with | [_], _ => rfl
  have F_Always___bool := fun_mk (st := s_Always___bool) l_Always___bool c_Always___bool k_Always___bool
  have b_Always___bool := F_Always___bool.binds (ps := ["self"]) fun _ _ _ _ _ _ us hl => match us, hl with | [_], _ => rfl
  have F_Chain_show := fun_mk (st := s_Chain_show) l_Chain_show c_Chain_show k_Chain_show
  have b_Chain_show := F_Chain_show.binds (ps := ["self"]) fun _ _ _ _ _ _ us hl => match us, hl with | [_], _ => rfl
  have F_Ring_show := fun_mk (st := s_Ring_show) l_Ring_show c_Ring_show k_Ring_show
  have b_Ring_show := F_Ring_show.binds (ps := ["self"]) fun _ _ _ _ _ _ us hl => match us, hl with | [_], _ => rfl
  have F_Through_show := fun_mk (st := s_Through_show) l_Through_show c_Through_show k_Through_show
  have b_Through_show := F_Through_show.binds (ps := ["self"]) fun _ _ _ _ _ _ us hl => match us, hl with | [_], _ => rfl
  have F_Can_show := fun_mk (st := s_Can_show) l_Can_show c_Can_show k_Can_show
  have b_Can_show := F_Can_show.binds (ps := ["self"]) fun _ _ _ _ _ _ us hl => match us, hl with | [_], _ => rfl
  have F_Stopped_show := fun_mk (st := s_Stopped_show) l_Stopped_show c_Stopped_show k_Stopped_show
  have b_Stopped_show := F_Stopped_show.binds (ps := ["self"]) fun _ _ _ _ _ _ us hl => match us, hl with | [_], _ => rfl
  have F_Cannot_show := fun_mk (st := s_Cannot_show) l_Cannot_show c_Cannot_show k_Cannot_show
  have b_Cannot_show := F_Cannot_show.binds (ps := ["self"]) fun _ _ _ _ _ _ us hl => match us, hl with | [_], _ => rfl
  have F_Always_show := fun_mk (st := s_Always_show) l_Always_show c_Always_show k_Always_show
  have b_Always_show := F_Always_show.binds (ps := ["self"]) fun _ _ _ _ _ _ us hl => match us, hl with | [_], _ => rfl
  have F_h_random_steps := fun_mk (st := s_h_random_steps) l_h_random_steps c_h_random_steps k_h_random_steps
  have b_h_random_steps := F_h_random_steps.binds (ps := ["_law_source_here"]) fun _ _ _ _ _ _ us hl => match us, hl with | [_], _ => rfl
  have F_h_shown := fun_mk (st := s_h_shown) l_h_shown c_h_shown k_h_shown
  have b_h_shown := F_h_shown.binds (ps := ["_law_steps"]) fun _ _ _ _ _ _ us hl => match us, hl with | [_], _ => rfl
  have F_h_some_objects := fun_mk (st := s_h_some_objects) l_h_some_objects c_h_some_objects k_h_some_objects
  have b_h_some_objects := F_h_some_objects.binds (ps := ["_law_steps"]) fun _ _ _ _ _ _ us hl => match us, hl with | [_], _ => rfl
  have F_h_reasons_right := fun_mk (st := s_h_reasons_right) l_h_reasons_right c_h_reasons_right k_h_reasons_right
  have b_h_reasons_right := F_h_reasons_right.binds (ps := ["_law_source_here", "_law_steps"]) fun _ _ _ _ _ _ us hl => match us, hl with | [_, _], _ => rfl
  have F_h_answers_right := fun_mk (st := s_h_answers_right) l_h_answers_right c_h_answers_right k_h_answers_right
  have b_h_answers_right := F_h_answers_right.binds (ps := ["_law_source_here", "_law_steps"]) fun _ _ _ _ _ _ us hl => match us, hl with | [_, _], _ => rfl
  have F_law := fun_mk (st := s_law) l_law c_law k_law
  have T : Txt mg := ⟨PySem.W.mg_none_of X G z_len, PySem.W.mg_none_of X G z_isinstance, PySem.W.mg_none_of X G z_type, PySem.W.mg_none_of X G z_tuple, PySem.W.mg_none_of X G z_list, PySem.W.mg_none_of X G z_range, PySem.W.mg_none_of X G z_max, PySem.W.mg_none_of X G z_min, PySem.W.mg_none_of X G z_bool, PySem.W.mg_none_of X G z_enumerate, PySem.W.mg_none_of X G z_str⟩
  refine ⟨PySem.W.fnOf "law" "law" (defArgs s_law) (defBody s_law) (defScope s_law) .none kVlaw dclaw pmlaw anlaw cdlaw ctlaw, fun s v => .of_eq rfl, fun base _ _ => ?_⟩
  have K_Chain : Kl K mg "Chain" C_Chain ["steps"] := ⟨⟨pg_Chain, hd_Chain, po_Chain, sa_Chain⟩, PySem.W.mg_of X G a_Chain, (List.forall_mem_cons.mpr ⟨nf_Chain_steps, (fun _ h => nomatch h)⟩)⟩
  have K_Ring : Kl K mg "Ring" C_Ring ["steps"] := ⟨⟨pg_Ring, hd_Ring, po_Ring, sa_Ring⟩, PySem.W.mg_of X G a_Ring, (List.forall_mem_cons.mpr ⟨nf_Ring_steps, (fun _ h => nomatch h)⟩)⟩
  have K_Through : Kl K mg "Through" C_Through ["steps", "name"] := ⟨⟨pg_Through, hd_Through, po_Through, sa_Through⟩, PySem.W.mg_of X G a_Through, (List.forall_mem_cons.mpr ⟨nf_Through_steps, (List.forall_mem_cons.mpr ⟨nf_Through_name, (fun _ h => nomatch h)⟩)⟩)⟩
  have K_Can : Kl K mg "Can" C_Can ["future"] := ⟨⟨pg_Can, hd_Can, po_Can, sa_Can⟩, PySem.W.mg_of X G a_Can, (List.forall_mem_cons.mpr ⟨nf_Can_future, (fun _ h => nomatch h)⟩)⟩
  have K_Stopped : Kl K mg "Stopped" C_Stopped ["future", "name"] := ⟨⟨pg_Stopped, hd_Stopped, po_Stopped, sa_Stopped⟩, PySem.W.mg_of X G a_Stopped, (List.forall_mem_cons.mpr ⟨nf_Stopped_future, (List.forall_mem_cons.mpr ⟨nf_Stopped_name, (fun _ h => nomatch h)⟩)⟩)⟩
  have K_Cannot : Kl K mg "Cannot" C_Cannot ["reason"] := ⟨⟨pg_Cannot, hd_Cannot, po_Cannot, sa_Cannot⟩, PySem.W.mg_of X G a_Cannot, (List.forall_mem_cons.mpr ⟨nf_Cannot_reason, (fun _ h => nomatch h)⟩)⟩
  have K_Always : Kl K mg "Always" C_Always ["reasons"] := ⟨⟨pg_Always, hd_Always, po_Always, sa_Always⟩, PySem.W.mg_of X G a_Always, (List.forall_mem_cons.mpr ⟨nf_Always_reasons, (fun _ h => nomatch h)⟩)⟩
  have K_Reason : Kl K mg "Reason" C_Reason [] := ⟨⟨pg_Reason, hd_Reason, po_Reason, sa_Reason⟩, PySem.W.mg_of X G a_Reason, (fun _ h => nomatch h)⟩
  have K_Answer : Kl K mg "Answer" C_Answer [] := ⟨⟨pg_Answer, hd_Answer, po_Answer, sa_Answer⟩, PySem.W.mg_of X G a_Answer, (fun _ h => nomatch h)⟩
  have FX : Fx K (⟨C_Chain, C_Ring, C_Through, C_Can, C_Stopped, C_Cannot, C_Always⟩ : Cc) := ⟨of_decide_eq_true nodB, mem7 mk_Chain mk_Ring mk_Through mk_Can mk_Stopped mk_Cannot mk_Always, mem7 K_Chain.cl K_Ring.cl K_Through.cl K_Can.cl K_Stopped.cl K_Cannot.cl K_Always.cl, eqs_of eqb⟩
  have IS := isf_of isb
  have KS : ∀ C ∈ [C_Chain, C_Ring, C_Through], NoAttr K C "steps" := mem3 (K_Chain.no "steps" (by simp)) (K_Ring.no "steps" (by simp)) (K_Through.no "steps" (by simp))
  have KF : ∀ C ∈ [C_Can, C_Stopped], NoAttr K C "future" := (fun C h => by
    rcases List.mem_cons.mp h with h | h
    · exact h ▸ K_Can.no "future" (by simp)
    · exact (List.mem_singleton.mp h) ▸ K_Stopped.no "future" (by simp))
  have kAC : ∀ C ∈ [C_Can, C_Stopped], PySem.W.kitOne K (.ref C) (.ref C_Can) = some true := (fun C h => by
    rcases List.mem_cons.mp h with h | h
    · exact h ▸ kA1
    · exact (List.mem_singleton.mp h) ▸ kA2)
  have kNC : ∀ C ∈ [C_Cannot, C_Always], PySem.W.kitOne K (.ref C) (.ref C_Can) = some false := (fun C h => by
    rcases List.mem_cons.mp h with h | h
    · exact h ▸ kN1
    · exact (List.mem_singleton.mp h) ▸ kN2)
  have D_h_source : Dn l.prog w K mg base CX0 1 "_law_source" ["_law_script", "_law_k"] (spSource K) := ⟨f_h_source, _, k_h_source, b_h_source, PySem.W.mg_of X G a_h_source, ok_h_source F_h_source T⟩
  have D_h_next : Dn l.prog w K mg base CX0 1 "_law_next" ["_law_source_here", "_law_many"] (spNext) := ⟨f_h_next, _, k_h_next, b_h_next, PySem.W.mg_of X G a_h_next, ok_h_next F_h_next T⟩
  have D_h_pick : Dn l.prog w K mg base CX0 2 "_law_pick" ["_law_source_here", "_law_items"] (spPick) := ⟨f_h_pick, _, k_h_pick, b_h_pick, PySem.W.mg_of X G a_h_pick, ok_h_pick F_h_pick T D_h_next⟩
  have D_h_mixed : Dn l.prog w K mg base CX0 2 "_law_mixed" ["_law_source_here", "_law_items"] (spMixed) := ⟨f_h_mixed, _, k_h_mixed, b_h_mixed, PySem.W.mg_of X G a_h_mixed, ok_h_mixed F_h_mixed T D_h_next⟩
  have D_Chain___init : Mi l.prog w K mg base CX0 1 C_Chain ["self", "steps"] (spInit1 C_Chain "steps") := ⟨f_Chain___init, _, ⟨mk_Chain, a_Chain___init, if_Chain___init, kc_Chain⟩, b_Chain___init, ok_Chain___init F_Chain___init T K_Chain⟩
  have D_Ring___init : Mi l.prog w K mg base CX0 1 C_Ring ["self", "steps"] (spInit1 C_Ring "steps") := ⟨f_Ring___init, _, ⟨mk_Ring, a_Ring___init, if_Ring___init, kc_Ring⟩, b_Ring___init, ok_Ring___init F_Ring___init T K_Ring⟩
  have D_Through___init : Mi l.prog w K mg base CX0 1 C_Through ["self", "steps", "name"] (spInit2 C_Through "steps" "name") := ⟨f_Through___init, _, ⟨mk_Through, a_Through___init, if_Through___init, kc_Through⟩, b_Through___init, ok_Through___init F_Through___init T K_Through⟩
  have D_Can___init : Mi l.prog w K mg base CX0 1 C_Can ["self", "future"] (spInit1 C_Can "future") := ⟨f_Can___init, _, ⟨mk_Can, a_Can___init, if_Can___init, kc_Can⟩, b_Can___init, ok_Can___init F_Can___init T K_Can⟩
  have D_Stopped___init : Mi l.prog w K mg base CX0 1 C_Stopped ["self", "future", "name"] (spInit2 C_Stopped "future" "name") := ⟨f_Stopped___init, _, ⟨mk_Stopped, a_Stopped___init, if_Stopped___init, kc_Stopped⟩, b_Stopped___init, ok_Stopped___init F_Stopped___init T K_Stopped⟩
  have D_Cannot___init : Mi l.prog w K mg base CX0 1 C_Cannot ["self", "reason"] (spInit1 C_Cannot "reason") := ⟨f_Cannot___init, _, ⟨mk_Cannot, a_Cannot___init, if_Cannot___init, kc_Cannot⟩, b_Cannot___init, ok_Cannot___init F_Cannot___init T K_Cannot⟩
  have D_Always___init : Mi l.prog w K mg base CX0 1 C_Always ["self", "reasons"] (spInit1 C_Always "reasons") := ⟨f_Always___init, _, ⟨mk_Always, a_Always___init, if_Always___init, kc_Always⟩, b_Always___init, ok_Always___init F_Always___init T K_Always⟩
  have D_step_lines : Dn l.prog w K mg base CX0 1 "_step_lines" ["chain"] (spStepL (⟨C_Chain, C_Ring, C_Through, C_Can, C_Stopped, C_Cannot, C_Always⟩ : Cc)) := ⟨f_step_lines, _, k_step_lines, b_step_lines, PySem.W.mg_of X G a_step_lines, ok_step_lines F_step_lines T FX KS⟩
  have D_future_line : Dn l.prog w K mg base CX0 1 "_future_line" ["answer"] (spFutL (⟨C_Chain, C_Ring, C_Through, C_Can, C_Stopped, C_Cannot, C_Always⟩ : Cc)) := ⟨f_future_line, _, k_future_line, b_future_line, PySem.W.mg_of X G a_future_line, ok_future_line F_future_line T FX KF⟩
  have D_Chain___eq : Mn l.prog w K mg base CX0 1 C_Chain "__eq__" ["self", "other"] (spEqO (⟨C_Chain, C_Ring, C_Through, C_Can, C_Stopped, C_Cannot, C_Always⟩ : Cc) C_Chain) := ⟨f_Chain___eq, _, ⟨a_Chain___eq, if_Chain___eq, k_Chain___eq⟩, b_Chain___eq, ok_Chain___eq F_Chain___eq T K_Chain FX⟩
  have D_Ring___eq : Mn l.prog w K mg base CX0 1 C_Ring "__eq__" ["self", "other"] (spEqO (⟨C_Chain, C_Ring, C_Through, C_Can, C_Stopped, C_Cannot, C_Always⟩ : Cc) C_Ring) := ⟨f_Ring___eq, _, ⟨a_Ring___eq, if_Ring___eq, k_Ring___eq⟩, b_Ring___eq, ok_Ring___eq F_Ring___eq T K_Ring FX⟩
  have D_Can___eq : Mn l.prog w K mg base CX0 1 C_Can "__eq__" ["self", "other"] (spEqO (⟨C_Chain, C_Ring, C_Through, C_Can, C_Stopped, C_Cannot, C_Always⟩ : Cc) C_Can) := ⟨f_Can___eq, _, ⟨a_Can___eq, if_Can___eq, k_Can___eq⟩, b_Can___eq, ok_Can___eq F_Can___eq T K_Can FX⟩
  have D_Through___eq : Mn l.prog w K mg base CX0 1 C_Through "__eq__" ["self", "other"] (spEqO (⟨C_Chain, C_Ring, C_Through, C_Can, C_Stopped, C_Cannot, C_Always⟩ : Cc) C_Through) := ⟨f_Through___eq, _, ⟨a_Through___eq, if_Through___eq, k_Through___eq⟩, b_Through___eq, ok_Through___eq F_Through___eq T K_Through FX⟩
  have D_Stopped___eq : Mn l.prog w K mg base CX0 1 C_Stopped "__eq__" ["self", "other"] (spEqO (⟨C_Chain, C_Ring, C_Through, C_Can, C_Stopped, C_Cannot, C_Always⟩ : Cc) C_Stopped) := ⟨f_Stopped___eq, _, ⟨a_Stopped___eq, if_Stopped___eq, k_Stopped___eq⟩, b_Stopped___eq, ok_Stopped___eq F_Stopped___eq T K_Stopped FX⟩
  have D_Cannot___eq : Mn l.prog w K mg base CX0 4 C_Cannot "__eq__" ["self", "other"] (spEqO (⟨C_Chain, C_Ring, C_Through, C_Can, C_Stopped, C_Cannot, C_Always⟩ : Cc) C_Cannot) := ⟨f_Cannot___eq, _, ⟨a_Cannot___eq, if_Cannot___eq, k_Cannot___eq⟩, b_Cannot___eq, ok_Cannot___eq F_Cannot___eq T K_Cannot D_Chain___eq D_Ring___eq D_Through___eq FX⟩
  have D_Always___eq : Mn l.prog w K mg base CX0 4 C_Always "__eq__" ["self", "other"] (spEqO (⟨C_Chain, C_Ring, C_Through, C_Can, C_Stopped, C_Cannot, C_Always⟩ : Cc) C_Always) := ⟨f_Always___eq, _, ⟨a_Always___eq, if_Always___eq, k_Always___eq⟩, b_Always___eq, ok_Always___eq F_Always___eq T K_Always D_Chain___eq D_Ring___eq FX⟩
  have D_Can___bool : Mn l.prog w K mg base CX0 1 C_Can "__bool__" ["self"] (spBool (⟨C_Chain, C_Ring, C_Through, C_Can, C_Stopped, C_Cannot, C_Always⟩ : Cc) C_Can) := ⟨f_Can___bool, _, ⟨a_Can___bool, if_Can___bool, k_Can___bool⟩, b_Can___bool, ok_Can___bool F_Can___bool T K_Can FX⟩
  have D_Stopped___bool : Mn l.prog w K mg base CX0 1 C_Stopped "__bool__" ["self"] (spBool (⟨C_Chain, C_Ring, C_Through, C_Can, C_Stopped, C_Cannot, C_Always⟩ : Cc) C_Stopped) := ⟨f_Stopped___bool, _, ⟨a_Stopped___bool, if_Stopped___bool, k_Stopped___bool⟩, b_Stopped___bool, ok_Stopped___bool F_Stopped___bool T K_Stopped FX⟩
  have D_Cannot___bool : Mn l.prog w K mg base CX0 1 C_Cannot "__bool__" ["self"] (spBool (⟨C_Chain, C_Ring, C_Through, C_Can, C_Stopped, C_Cannot, C_Always⟩ : Cc) C_Cannot) := ⟨f_Cannot___bool, _, ⟨a_Cannot___bool, if_Cannot___bool, k_Cannot___bool⟩, b_Cannot___bool, ok_Cannot___bool F_Cannot___bool T K_Cannot FX⟩
  have D_Always___bool : Mn l.prog w K mg base CX0 1 C_Always "__bool__" ["self"] (spBool (⟨C_Chain, C_Ring, C_Through, C_Can, C_Stopped, C_Cannot, C_Always⟩ : Cc) C_Always) := ⟨f_Always___bool, _, ⟨a_Always___bool, if_Always___bool, k_Always___bool⟩, b_Always___bool, ok_Always___bool F_Always___bool T K_Always FX⟩
  have D_Chain_show : Mn l.prog w K mg base CX0 2 C_Chain "show" ["self"] (spShow (⟨C_Chain, C_Ring, C_Through, C_Can, C_Stopped, C_Cannot, C_Always⟩ : Cc) C_Chain) := ⟨f_Chain_show, _, ⟨a_Chain_show, if_Chain_show, k_Chain_show⟩, b_Chain_show, ok_Chain_show F_Chain_show T K_Chain D_step_lines FX⟩
  have D_Ring_show : Mn l.prog w K mg base CX0 2 C_Ring "show" ["self"] (spShow (⟨C_Chain, C_Ring, C_Through, C_Can, C_Stopped, C_Cannot, C_Always⟩ : Cc) C_Ring) := ⟨f_Ring_show, _, ⟨a_Ring_show, if_Ring_show, k_Ring_show⟩, b_Ring_show, ok_Ring_show F_Ring_show T K_Ring D_step_lines FX⟩
  have D_Through_show : Mn l.prog w K mg base CX0 2 C_Through "show" ["self"] (spShow (⟨C_Chain, C_Ring, C_Through, C_Can, C_Stopped, C_Cannot, C_Always⟩ : Cc) C_Through) := ⟨f_Through_show, _, ⟨a_Through_show, if_Through_show, k_Through_show⟩, b_Through_show, ok_Through_show F_Through_show T K_Through D_step_lines FX⟩
  have D_Can_show : Mn l.prog w K mg base CX0 2 C_Can "show" ["self"] (spShow (⟨C_Chain, C_Ring, C_Through, C_Can, C_Stopped, C_Cannot, C_Always⟩ : Cc) C_Can) := ⟨f_Can_show, _, ⟨a_Can_show, if_Can_show, k_Can_show⟩, b_Can_show, ok_Can_show F_Can_show T K_Can D_future_line FX⟩
  have D_Stopped_show : Mn l.prog w K mg base CX0 2 C_Stopped "show" ["self"] (spShow (⟨C_Chain, C_Ring, C_Through, C_Can, C_Stopped, C_Cannot, C_Always⟩ : Cc) C_Stopped) := ⟨f_Stopped_show, _, ⟨a_Stopped_show, if_Stopped_show, k_Stopped_show⟩, b_Stopped_show, ok_Stopped_show F_Stopped_show T K_Stopped D_future_line FX⟩
  have D_Cannot_show : Mn l.prog w K mg base CX0 3 C_Cannot "show" ["self"] (spShow (⟨C_Chain, C_Ring, C_Through, C_Can, C_Stopped, C_Cannot, C_Always⟩ : Cc) C_Cannot) := ⟨f_Cannot_show, _, ⟨a_Cannot_show, if_Cannot_show, k_Cannot_show⟩, b_Cannot_show, ok_Cannot_show F_Cannot_show T K_Cannot D_Chain_show D_Ring_show D_Through_show FX⟩
  have D_Always_show : Mn l.prog w K mg base CX0 3 C_Always "show" ["self"] (spShow (⟨C_Chain, C_Ring, C_Through, C_Can, C_Stopped, C_Cannot, C_Always⟩ : Cc) C_Always) := ⟨f_Always_show, _, ⟨a_Always_show, if_Always_show, k_Always_show⟩, b_Always_show, ok_Always_show F_Always_show T K_Always D_Chain_show D_Ring_show D_Through_show FX⟩
  have D_h_random_steps : Dn l.prog w K mg base CX0 3 "_law_random_steps" ["_law_source_here"] (spRS) := ⟨f_h_random_steps, _, k_h_random_steps, b_h_random_steps, PySem.W.mg_of X G a_h_random_steps, ok_h_random_steps F_h_random_steps T D_h_pick⟩
  have D_h_shown : Dn l.prog w K mg base CX0 1 "_law_shown" ["_law_steps"] (spShown) := ⟨f_h_shown, _, k_h_shown, b_h_shown, PySem.W.mg_of X G a_h_shown, ok_h_shown F_h_shown T⟩
  have D_h_some_objects : Dn l.prog w K mg base CX0 3 "_law_some_objects" ["_law_steps"] (spSome (⟨C_Chain, C_Ring, C_Through, C_Can, C_Stopped, C_Cannot, C_Always⟩ : Cc)) := ⟨f_h_some_objects, _, k_h_some_objects, b_h_some_objects, PySem.W.mg_of X G a_h_some_objects, ok_h_some_objects F_h_some_objects T K_Always K_Can K_Cannot K_Chain K_Ring K_Stopped K_Through D_Chain___init D_Ring___init D_Through___init D_Can___init D_Stopped___init D_Cannot___init D_Always___init⟩
  have D_h_reasons_right : Dn l.prog w K mg base CX0 6 "_law_reasons_right" ["_law_source_here", "_law_steps"] (spRR (⟨C_Chain, C_Ring, C_Through, C_Can, C_Stopped, C_Cannot, C_Always⟩ : Cc)) := ⟨f_h_reasons_right, _, k_h_reasons_right, b_h_reasons_right, PySem.W.mg_of X G a_h_reasons_right, ok_h_reasons_right F_h_reasons_right T K_Chain K_Reason K_Ring K_Through D_h_pick D_Chain___init D_Ring___init D_Through___init D_Chain___eq D_Ring___eq D_Through___eq D_Chain_show D_Ring_show D_Through_show D_h_shown FX IS kRC kTC kCR kRR⟩
  have D_h_answers_right : Dn l.prog w K mg base CX0 8 "_law_answers_right" ["_law_source_here", "_law_steps"] (spRR (⟨C_Chain, C_Ring, C_Through, C_Can, C_Stopped, C_Cannot, C_Always⟩ : Cc)) := ⟨f_h_answers_right, _, k_h_answers_right, b_h_answers_right, PySem.W.mg_of X G a_h_answers_right, ok_h_answers_right F_h_answers_right T K_Always K_Answer K_Can K_Cannot K_Chain K_Ring K_Stopped D_h_next D_h_mixed D_Chain___init D_Ring___init D_Can___init D_Stopped___init D_Cannot___init D_Always___init D_Can___bool D_Stopped___bool D_Cannot___bool D_Always___bool D_Chain_show D_Ring_show D_Through_show D_Can_show D_Stopped_show D_Cannot_show D_Always_show D_h_shown FX IS kAC kNC kCA⟩
  exact ok_law F_law T D_h_source D_Chain___eq D_Ring___eq D_Can___eq D_Through___eq D_Stopped___eq D_Cannot___eq D_Always___eq D_Chain_show D_Ring_show D_Through_show D_Can_show D_Stopped_show D_Cannot_show D_Always_show D_h_random_steps D_h_some_objects D_h_reasons_right D_h_answers_right FX
end K22
open PySem PySem.W PyProof.Rows
set_option maxRecDepth 100000 in
set_option maxHeartbeats 0 in
theorem PySem.Challenge.cw_nextbehind_k22_answers_shown_holds : PySem.Challenge.rw_nextbehind_k22_answers_shown.Holds := by
  w_on; o_law; k_head; (case hw => w_witness2)
  k_fill
  refine L2.walk_of (l := PySem.Challenge.rw_nextbehind_k22_answers_shown) (n := 63) (k := 9) (x := "_law_script") (CX := fun _ => L2.CX0) (sp := fun w => Nb.spLaw0 _) rfl (by decide) rfl ⟨rfl, by decide, by decide⟩ (fun w h Y => PySem.W.kIn_of Y) ?F (fun _ _ a ns hl _ hS => ⟨a, ns, rfl, hS, hl, fun _ => rfl⟩) (fun _ _ _ _ _ h => h)
  case F =>
    intro w mg fa h KX G hmg
    refine' K22.all_mk KX G hmg ?a_Chain ?pg_Chain ?hd_Chain ?po_Chain ?sa_Chain ?nf_Chain_steps ?mk_Chain ?kc_Chain ?a_Ring ?pg_Ring ?hd_Ring ?po_Ring ?sa_Ring ?nf_Ring_steps ?mk_Ring ?kc_Ring ?a_Through ?pg_Through ?hd_Through ?po_Through ?sa_Through ?nf_Through_steps ?nf_Through_name ?mk_Through ?kc_Through ?a_Can ?pg_Can ?hd_Can ?po_Can ?sa_Can ?nf_Can_future ?mk_Can ?kc_Can ?a_Stopped ?pg_Stopped ?hd_Stopped ?po_Stopped ?sa_Stopped ?nf_Stopped_future ?nf_Stopped_name ?mk_Stopped ?kc_Stopped ?a_Cannot ?pg_Cannot ?hd_Cannot ?po_Cannot ?sa_Cannot ?nf_Cannot_reason ?mk_Cannot ?kc_Cannot ?a_Always ?pg_Always ?hd_Always ?po_Always ?sa_Always ?nf_Always_reasons ?mk_Always ?kc_Always ?a_Reason ?pg_Reason ?hd_Reason ?po_Reason ?sa_Reason ?a_Answer ?pg_Answer ?hd_Answer ?po_Answer ?sa_Answer ?a_h_source ?l_h_source ?c_h_source ?k_h_source ?a_h_next ?l_h_next ?c_h_next ?k_h_next ?a_h_pick ?l_h_pick ?c_h_pick ?k_h_pick ?a_h_mixed ?l_h_mixed ?c_h_mixed ?k_h_mixed ?a_Chain___init ?if_Chain___init ?l_Chain___init ?c_Chain___init ?k_Chain___init ?a_Ring___init ?if_Ring___init ?l_Ring___init ?c_Ring___init ?k_Ring___init ?a_Through___init ?if_Through___init ?l_Through___init ?c_Through___init ?k_Through___init ?a_Can___init ?if_Can___init ?l_Can___init ?c_Can___init ?k_Can___init ?a_Stopped___init ?if_Stopped___init ?l_Stopped___init ?c_Stopped___init ?k_Stopped___init ?a_Cannot___init ?if_Cannot___init ?l_Cannot___init ?c_Cannot___init ?k_Cannot___init ?a_Always___init ?if_Always___init ?l_Always___init ?c_Always___init ?k_Always___init ?a_step_lines ?l_step_lines ?c_step_lines ?k_step_lines ?a_future_line ?l_future_line ?c_future_line ?k_future_line ?a_Chain___eq ?if_Chain___eq ?l_Chain___eq ?c_Chain___eq ?k_Chain___eq ?a_Ring___eq ?if_Ring___eq ?l_Ring___eq ?c_Ring___eq ?k_Ring___eq ?a_Can___eq ?if_Can___eq ?l_Can___eq ?c_Can___eq ?k_Can___eq ?a_Through___eq ?if_Through___eq ?l_Through___eq ?c_Through___eq ?k_Through___eq ?a_Stopped___eq ?if_Stopped___eq ?l_Stopped___eq ?c_Stopped___eq ?k_Stopped___eq ?a_Cannot___eq ?if_Cannot___eq ?l_Cannot___eq ?c_Cannot___eq ?k_Cannot___eq ?a_Always___eq ?if_Always___eq ?l_Always___eq ?c_Always___eq ?k_Always___eq ?a_Can___bool ?if_Can___bool ?l_Can___bool ?c_Can___bool ?k_Can___bool ?a_Stopped___bool ?if_Stopped___bool ?l_Stopped___bool ?c_Stopped___bool ?k_Stopped___bool ?a_Cannot___bool ?if_Cannot___bool ?l_Cannot___bool ?c_Cannot___bool ?k_Cannot___bool ?a_Always___bool ?if_Always___bool ?l_Always___bool ?c_Always___bool ?k_Always___bool ?a_Chain_show ?if_Chain_show ?l_Chain_show ?c_Chain_show ?k_Chain_show ?a_Ring_show ?if_Ring_show ?l_Ring_show ?c_Ring_show ?k_Ring_show ?a_Through_show ?if_Through_show ?l_Through_show ?c_Through_show ?k_Through_show ?a_Can_show ?if_Can_show ?l_Can_show ?c_Can_show ?k_Can_show ?a_Stopped_show ?if_Stopped_show ?l_Stopped_show ?c_Stopped_show ?k_Stopped_show ?a_Cannot_show ?if_Cannot_show ?l_Cannot_show ?c_Cannot_show ?k_Cannot_show ?a_Always_show ?if_Always_show ?l_Always_show ?c_Always_show ?k_Always_show ?a_h_random_steps ?l_h_random_steps ?c_h_random_steps ?k_h_random_steps ?a_h_shown ?l_h_shown ?c_h_shown ?k_h_shown ?a_h_some_objects ?l_h_some_objects ?c_h_some_objects ?k_h_some_objects ?a_h_reasons_right ?l_h_reasons_right ?c_h_reasons_right ?k_h_reasons_right ?a_h_answers_right ?l_h_answers_right ?c_h_answers_right ?k_h_answers_right ?a_law ?l_law ?c_law ?k_law ?z_len ?z_isinstance ?z_type ?z_tuple ?z_list ?z_range ?z_max ?z_min ?z_bool ?z_enumerate ?z_str ?nodB ?eqb ?isb ?kRC ?kTC ?kCR ?kRR ?kA1 ?kA2 ?kN1 ?kN2 ?kCA
    (case a_Chain => k_is)
    (case pg_Chain => kernel_rfl)
    (case hd_Chain => kernel_rfl)
    (case po_Chain => kernel_rfl)
    (case sa_Chain => k_is)
    (case nf_Chain_steps => k_is)
    (case mk_Chain => kernel_rfl)
    (case kc_Chain => k_is)
    (case a_Ring => k_is)
    (case pg_Ring => kernel_rfl)
    (case hd_Ring => kernel_rfl)
    (case po_Ring => kernel_rfl)
    (case sa_Ring => k_is)
    (case nf_Ring_steps => k_is)
    (case mk_Ring => kernel_rfl)
    (case kc_Ring => k_is)
    (case a_Through => k_is)
    (case pg_Through => kernel_rfl)
    (case hd_Through => kernel_rfl)
    (case po_Through => kernel_rfl)
    (case sa_Through => k_is)
    (case nf_Through_steps => k_is)
    (case nf_Through_name => k_is)
    (case mk_Through => kernel_rfl)
    (case kc_Through => k_is)
    (case a_Can => k_is)
    (case pg_Can => kernel_rfl)
    (case hd_Can => kernel_rfl)
    (case po_Can => kernel_rfl)
    (case sa_Can => k_is)
    (case nf_Can_future => k_is)
    (case mk_Can => kernel_rfl)
    (case kc_Can => k_is)
    (case a_Stopped => k_is)
    (case pg_Stopped => kernel_rfl)
    (case hd_Stopped => kernel_rfl)
    (case po_Stopped => kernel_rfl)
    (case sa_Stopped => k_is)
    (case nf_Stopped_future => k_is)
    (case nf_Stopped_name => k_is)
    (case mk_Stopped => kernel_rfl)
    (case kc_Stopped => k_is)
    (case a_Cannot => k_is)
    (case pg_Cannot => kernel_rfl)
    (case hd_Cannot => kernel_rfl)
    (case po_Cannot => kernel_rfl)
    (case sa_Cannot => k_is)
    (case nf_Cannot_reason => k_is)
    (case mk_Cannot => kernel_rfl)
    (case kc_Cannot => k_is)
    (case a_Always => k_is)
    (case pg_Always => kernel_rfl)
    (case hd_Always => kernel_rfl)
    (case po_Always => kernel_rfl)
    (case sa_Always => k_is)
    (case nf_Always_reasons => k_is)
    (case mk_Always => kernel_rfl)
    (case kc_Always => k_is)
    (case a_Reason => k_is)
    (case pg_Reason => kernel_rfl)
    (case hd_Reason => kernel_rfl)
    (case po_Reason => kernel_rfl)
    (case sa_Reason => k_is)
    (case a_Answer => k_is)
    (case pg_Answer => kernel_rfl)
    (case hd_Answer => kernel_rfl)
    (case po_Answer => kernel_rfl)
    (case sa_Answer => k_is)
    (case a_h_source => k_is)
    (case l_h_source => k_is)
    (case c_h_source => k_is)
    (case k_h_source => k_is)
    (case a_h_next => k_is)
    (case l_h_next => k_is)
    (case c_h_next => k_is)
    (case k_h_next => k_is)
    (case a_h_pick => k_is)
    (case l_h_pick => k_is)
    (case c_h_pick => k_is)
    (case k_h_pick => k_is)
    (case a_h_mixed => k_is)
    (case l_h_mixed => k_is)
    (case c_h_mixed => k_is)
    (case k_h_mixed => k_is)
    (case a_Chain___init => k_is)
    (case if_Chain___init => kernel_rfl)
    (case l_Chain___init => k_is)
    (case c_Chain___init => k_is)
    (case k_Chain___init => k_is)
    (case a_Ring___init => k_is)
    (case if_Ring___init => kernel_rfl)
    (case l_Ring___init => k_is)
    (case c_Ring___init => k_is)
    (case k_Ring___init => k_is)
    (case a_Through___init => k_is)
    (case if_Through___init => kernel_rfl)
    (case l_Through___init => k_is)
    (case c_Through___init => k_is)
    (case k_Through___init => k_is)
    (case a_Can___init => k_is)
    (case if_Can___init => kernel_rfl)
    (case l_Can___init => k_is)
    (case c_Can___init => k_is)
    (case k_Can___init => k_is)
    (case a_Stopped___init => k_is)
    (case if_Stopped___init => kernel_rfl)
    (case l_Stopped___init => k_is)
    (case c_Stopped___init => k_is)
    (case k_Stopped___init => k_is)
    (case a_Cannot___init => k_is)
    (case if_Cannot___init => kernel_rfl)
    (case l_Cannot___init => k_is)
    (case c_Cannot___init => k_is)
    (case k_Cannot___init => k_is)
    (case a_Always___init => k_is)
    (case if_Always___init => kernel_rfl)
    (case l_Always___init => k_is)
    (case c_Always___init => k_is)
    (case k_Always___init => k_is)
    (case a_step_lines => k_is)
    (case l_step_lines => k_is)
    (case c_step_lines => k_is)
    (case k_step_lines => k_is)
    (case a_future_line => k_is)
    (case l_future_line => k_is)
    (case c_future_line => k_is)
    (case k_future_line => k_is)
    (case a_Chain___eq => k_is)
    (case if_Chain___eq => kernel_rfl)
    (case l_Chain___eq => k_is)
    (case c_Chain___eq => k_is)
    (case k_Chain___eq => k_is)
    (case a_Ring___eq => k_is)
    (case if_Ring___eq => kernel_rfl)
    (case l_Ring___eq => k_is)
    (case c_Ring___eq => k_is)
    (case k_Ring___eq => k_is)
    (case a_Can___eq => k_is)
    (case if_Can___eq => kernel_rfl)
    (case l_Can___eq => k_is)
    (case c_Can___eq => k_is)
    (case k_Can___eq => k_is)
    (case a_Through___eq => k_is)
    (case if_Through___eq => kernel_rfl)
    (case l_Through___eq => k_is)
    (case c_Through___eq => k_is)
    (case k_Through___eq => k_is)
    (case a_Stopped___eq => k_is)
    (case if_Stopped___eq => kernel_rfl)
    (case l_Stopped___eq => k_is)
    (case c_Stopped___eq => k_is)
    (case k_Stopped___eq => k_is)
    (case a_Cannot___eq => k_is)
    (case if_Cannot___eq => kernel_rfl)
    (case l_Cannot___eq => k_is)
    (case c_Cannot___eq => k_is)
    (case k_Cannot___eq => k_is)
    (case a_Always___eq => k_is)
    (case if_Always___eq => kernel_rfl)
    (case l_Always___eq => k_is)
    (case c_Always___eq => k_is)
    (case k_Always___eq => k_is)
    (case a_Can___bool => k_is)
    (case if_Can___bool => kernel_rfl)
    (case l_Can___bool => k_is)
    (case c_Can___bool => k_is)
    (case k_Can___bool => k_is)
    (case a_Stopped___bool => k_is)
    (case if_Stopped___bool => kernel_rfl)
    (case l_Stopped___bool => k_is)
    (case c_Stopped___bool => k_is)
    (case k_Stopped___bool => k_is)
    (case a_Cannot___bool => k_is)
    (case if_Cannot___bool => kernel_rfl)
    (case l_Cannot___bool => k_is)
    (case c_Cannot___bool => k_is)
    (case k_Cannot___bool => k_is)
    (case a_Always___bool => k_is)
    (case if_Always___bool => kernel_rfl)
    (case l_Always___bool => k_is)
    (case c_Always___bool => k_is)
    (case k_Always___bool => k_is)
    (case a_Chain_show => k_is)
    (case if_Chain_show => kernel_rfl)
    (case l_Chain_show => k_is)
    (case c_Chain_show => k_is)
    (case k_Chain_show => k_is)
    (case a_Ring_show => k_is)
    (case if_Ring_show => kernel_rfl)
    (case l_Ring_show => k_is)
    (case c_Ring_show => k_is)
    (case k_Ring_show => k_is)
    (case a_Through_show => k_is)
    (case if_Through_show => kernel_rfl)
    (case l_Through_show => k_is)
    (case c_Through_show => k_is)
    (case k_Through_show => k_is)
    (case a_Can_show => k_is)
    (case if_Can_show => kernel_rfl)
    (case l_Can_show => k_is)
    (case c_Can_show => k_is)
    (case k_Can_show => k_is)
    (case a_Stopped_show => k_is)
    (case if_Stopped_show => kernel_rfl)
    (case l_Stopped_show => k_is)
    (case c_Stopped_show => k_is)
    (case k_Stopped_show => k_is)
    (case a_Cannot_show => k_is)
    (case if_Cannot_show => kernel_rfl)
    (case l_Cannot_show => k_is)
    (case c_Cannot_show => k_is)
    (case k_Cannot_show => k_is)
    (case a_Always_show => k_is)
    (case if_Always_show => kernel_rfl)
    (case l_Always_show => k_is)
    (case c_Always_show => k_is)
    (case k_Always_show => k_is)
    (case a_h_random_steps => k_is)
    (case l_h_random_steps => k_is)
    (case c_h_random_steps => k_is)
    (case k_h_random_steps => k_is)
    (case a_h_shown => k_is)
    (case l_h_shown => k_is)
    (case c_h_shown => k_is)
    (case k_h_shown => k_is)
    (case a_h_some_objects => k_is)
    (case l_h_some_objects => k_is)
    (case c_h_some_objects => k_is)
    (case k_h_some_objects => k_is)
    (case a_h_reasons_right => k_is)
    (case l_h_reasons_right => k_is)
    (case c_h_reasons_right => k_is)
    (case k_h_reasons_right => k_is)
    (case a_h_answers_right => k_is)
    (case l_h_answers_right => k_is)
    (case c_h_answers_right => k_is)
    (case k_h_answers_right => k_is)
    (case a_law => k_is)
    (case l_law => k_is)
    (case c_law => k_is)
    (case k_law => k_is)
    (case z_len => k_is)
    (case z_isinstance => k_is)
    (case z_type => k_is)
    (case z_tuple => k_is)
    (case z_list => k_is)
    (case z_range => k_is)
    (case z_max => k_is)
    (case z_min => k_is)
    (case z_bool => k_is)
    (case z_enumerate => k_is)
    (case z_str => k_is)
    (case nodB => kernel_rfl)
    (case eqb => kernel_rfl)
    (case isb => kernel_rfl)
    (case kRC => kernel_rfl)
    (case kTC => kernel_rfl)
    (case kCR => kernel_rfl)
    (case kRR => kernel_rfl)
    (case kA1 => kernel_rfl)
    (case kA2 => kernel_rfl)
    (case kN1 => kernel_rfl)
    (case kN2 => kernel_rfl)
    (case kCA => kernel_rfl)
