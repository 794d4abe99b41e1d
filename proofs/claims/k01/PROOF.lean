import PyProof.Rows.All
import Wide.All
import OpenK.AllK
import Wide.FinOn
import HandS.ForMost
import HandS.IsInst
import HandS.Wide
import HandS.Ends
import HandS.ExcOwn
import HandS.TupAny
import HandS.ExcInit
import PyProof.Rows.RegFStrParts
import PyProof.ReprRoads
import HandS.Walk
import HandS.Strs
import HandS.Exc
import HandS.ExcField
import HandS.ExcIs
import KE.KExcIs
import KE.KExcInit
import HandS.NoneIn
import PySem.Challenge.RW_nextbehind_k01_error_classes
set_option Elab.async false
set_option maxRecDepth 100000
set_option maxHeartbeats 4000000
/-! Heaps, and the numbers that the laws draw: what is common to all of them. -/
namespace Nb
open PySem L2
/-! ### heaps -/
theorem same_new {H : Hp} {p : Addr} {o : HO} (h : H p = none) : Same H (upd H p o) := fun b x e => by
  rw [upd_ne (ne_of_none e h)]
  exact e
/-- F says nothing of p: so what is stored at p leaves F as it is -/
theorem same_at {F H : Hp} {p : Addr} {o : HO} (s : Same F H) (h : F p = none) : Same F (upd H p o) := fun b x e => by
  rw [upd_ne (ne_of_none e h)]
  exact s _ _ e
theorem same_in {F H : Hp} {p : Addr} {o : HO} (s : Same F H) (h : H p = none) : Same F (upd H p o) := s.trans (same_new h)
/-- the heap without p -/
def del (H : Hp) (p : Addr) : Hp := fun b => if b = p then none else H b
theorem del_at {H : Hp} {p : Addr} : del H p p = none := if_pos rfl
theorem del_ne {H : Hp} {p b : Addr} (h : b ≠ p) : del H p b = H b := if_neg h
theorem del_same {H : Hp} {p : Addr} : Same (del H p) H := fun b o e => by
  by_cases h : b = p
  · subst h
    rw [del_at] at e
    cases e
  · rw [del_ne h] at e
    exact e
theorem same_del {F H : Hp} {p : Addr} (s : Same F H) (h : F p = none) : Same F (del H p) := fun b o e => by
  rw [del_ne (ne_of_none e h)]
  exact s _ _ e
theorem Same.tup {K : PySem.W.Frag} {H H' : Hp} {a : Addr} {xs : List V} (e : Same H H') (h : SqT K H a xs) : SqT K H' a xs := by
  rcases h with (h | ⟨o, h⟩) | h
  · exact .inl (.inl (e _ _ h))
  · exact .inl (.inr ⟨o, e _ _ h⟩)
  · exact .inr h
/-! ### data under more objects -/
section
variable {K : PySem.W.Frag} {H H' : Hp} (s : Same H H')
include s
mutual
theorem dp_same : ∀ (d : PyData) (v : V), Dp K H v d → Dp K H' v d
  | .none, _, .non => .non
  | .bool b, _, .bl _ => .bl b
  | .int i, _, .int _ => .int i
  | .str x, _, .str _ => .str x
  | .list ds, _, .lst h1 h2 => .lst (s.seq h1) (dp_sames ds _ h2)
  | .tuple ds, _, .tup h1 h2 => .tup (Nb.Same.tup s h1) (dp_sames ds _ h2)
theorem dp_sames : ∀ (ds : List PyData) (vs : List V), DpAll K H vs ds → DpAll K H' vs ds
  | [], _, .nil => .nil
  | d :: ds, _, .cons h1 h2 => .cons (dp_same d _ h1) (dp_sames ds _ h2)
end
end
theorem dp_ints {K : PySem.W.Frag} {H : Hp} : ∀ ns : List Int, DpAll K H (ns.map V.int) (ns.map PyData.int)
  | [] => .nil
  | n :: ns => .cons (.int n) (dp_ints ns)
/-- data without dicts, whose texts are texts, not deeper than n -/
def Fine (n : Nat) (d : PyData) : Prop := d.canLay0 = true ∧ d.depth ≤ n
theorem Fine.mono {n m : Nat} {d : PyData} (h : Fine n d) (l : n ≤ m) : Fine m d := ⟨h.1, Nat.le_trans h.2 l⟩
theorem Fine.shaped {n : Nat} {d : PyData} (h : Fine n d) (l : n ≤ 64) : SeqAt.shaped d = true := by
  unfold SeqAt.shaped
  rw [h.1, Bool.true_and]
  exact decide_eq_true (Nat.le_trans h.2 l)
theorem fine_all : ∀ {n : Nat} {ds : List PyData}, (∀ d ∈ ds, Fine n d) → PyData.canLayAll0 ds = true ∧ PyData.depthAll ds ≤ n
  | n, [], _ => by simp [PyData.canLayAll0, PyData.depthAll]
  | n, d :: ds, h => by
    have h1 := h d (List.mem_cons_self ..)
    have h2 := fine_all (n := n) (ds := ds) fun e he => h e (List.mem_cons_of_mem _ he)
    refine ⟨by simp [PyData.canLayAll0, h1.1, h2.1], ?_⟩
    simp only [PyData.depthAll]
    exact Nat.max_le.mpr ⟨h1.2, h2.2⟩
theorem fine_list {n : Nat} {ds : List PyData} (h : ∀ d ∈ ds, Fine n d) : Fine (n + 1) (.list ds) := by
  have k := fine_all h
  exact ⟨by simpa [PyData.canLay0] using k.1, by simpa [PyData.depth] using k.2⟩
theorem fine_tup {n : Nat} {ds : List PyData} (h : ∀ d ∈ ds, Fine n d) : Fine (n + 1) (.tuple ds) := by
  have k := fine_all h
  exact ⟨by simpa [PyData.canLay0] using k.1, by simpa [PyData.depth] using k.2⟩
theorem fine_int (i : Int) : Fine 0 (.int i) := ⟨by simp [PyData.canLay0], by simp [PyData.depth]⟩
theorem fine_non : Fine 0 .none := ⟨by simp [PyData.canLay0], by simp [PyData.depth]⟩
theorem fine_bl (b : Bool) : Fine 0 (.bool b) := ⟨by simp [PyData.canLay0], by simp [PyData.depth]⟩
theorem fine_str {x : Str} (h : PyData.strOk x = true) : Fine 0 (.str x) := ⟨by simpa [PyData.canLay0] using h, by simp [PyData.depth]⟩
theorem fine_ints (ns : List Int) : Fine 1 (.list (ns.map PyData.int)) := fine_list fun d hd => by
  obtain ⟨i, _, rfl⟩ := List.mem_map.mp hd
  exact fine_int i
theorem eqv_nil (ds : List PyData) : PyData.eqv (.list ds) (.list []) = ds.isEmpty := by
  cases ds <;> simp [PyData.eqv, PyData.eqvAll]
/-! ### the source of numbers: a list of three ints -/
def Src (H : Hp) (p : Addr) (b : Nat) : Prop := ∃ c n r : Int, H p = some (.lst [.int c, .int n, .int r]) ∧ 0 ≤ n ∧ n ≤ b
theorem Src.mono {H : Hp} {p : Addr} {b c : Nat} (h : Src H p b) (l : b ≤ c) : Src H p c := by
  obtain ⟨x, n, r, h1, h2, h3⟩ := h
  exact ⟨x, n, r, h1, h2, by omega⟩
theorem Src.some {H : Hp} {p : Addr} {b : Nat} (h : Src H p b) : ∃ o, H p = some o := let ⟨_, _, _, e, _⟩ := h; ⟨_, e⟩
theorem Src.same {F H : Hp} {p : Addr} {b : Nat} (h : Src F p b) (s : Same F H) : Src H p b :=
  let ⟨c, n, r, e, k⟩ := h; ⟨c, n, r, s _ _ e, k⟩
/-- _law_source's promise -/
def spSource (K : PySem.W.Frag) : Sp := fun vs H Q _ => ∃ (a : Addr) (ns : List Int) (k : Nat), vs = [.ref a, .int k] ∧ SqL K H a (ns.map V.int) ∧ ns.length ≤ 63 ∧ k ≤ 1000 ∧
  ∀ H' p, Same H H' → H p = none → Src H' p (3 * k) → Q (.ref p) H'
/-- _law_next's: a number below the second argument; nothing but the source is changed -/
def spNext : Sp := fun vs H Q _ => ∃ (p : Addr) (m : Int) (b : Nat) (F : Hp), vs = [.ref p, .int m] ∧ 1 ≤ m ∧ m < 1000000 ∧ Src H p b ∧ b ≤ 1000000 ∧ F p = none ∧ Same F H ∧
  ∀ H' k, 0 ≤ k → k < m → Same F H' → Src H' p (b + 1) → Q (.int k) H'
/-- _law_pick's: an item of the list -/
def spPick : Sp := fun vs H Q _ => ∃ (p l : Addr) (xs : List V) (b : Nat) (F : Hp), vs = [.ref p, .ref l] ∧ F l = some (.lst xs) ∧ 1 ≤ xs.length ∧ xs.length ≤ 1000 ∧ Src H p b ∧ b ≤ 1000000 ∧ F p = none ∧ Same F H ∧
  ∀ H' x, x ∈ xs → Same F H' → Src H' p (b + 1) → Q x H'
/-! ### frames: what stands beside the source -/
theorem grow_same {F H : Hp} {l : Addr} {o : HO} (s : Same F H) (h : H l = none) : Same F (upd F l o) := same_new (s.free h)
theorem grow_up {F H : Hp} {l : Addr} {o : HO} (s : Same F H) : Same (upd F l o) (upd H l o) := fun b x e => by
  by_cases hb : b = l
  · subst hb
    rw [upd_same] at e ⊢
    exact e
  · rw [upd_ne hb] at e ⊢
    exact s _ _ e
theorem grow_at {F H : Hp} {p l : Addr} {o : HO} {b : Nat} (hF : F p = none) (S : Src H p b) (h : H l = none) : (upd F l o) p = none := by
  obtain ⟨u, e⟩ := S.some
  rw [upd_ne (ne_of_none e h)]
  exact hF
theorem src_new {H : Hp} {p l : Addr} {o : HO} {b : Nat} (S : Src H p b) (h : H l = none) : Src (upd H l o) p b := S.same (same_new h)
/-- what stood at b, not the source, stands there behind a call that was framed by the heap without the source -/
theorem del_get {H H' : Hp} {p b : Addr} {o : HO} (s : Same (del H p) H') (n : b ≠ p) (e : H b = some o) : H' b = some o := s _ _ (by rw [del_ne n]; exact e)
theorem src_ne {H : Hp} {p b : Addr} {n : Nat} {o : HO} (S : Src H p n) (e : H b = some o) (d : ∀ xs, o ≠ .lst xs) : b ≠ p := by
  obtain ⟨c, m, r, e2, _⟩ := S
  exact ne_of e e2 (d _)
/-- the primes -/
def primes : List Int := [2147483647, 2147483629, 2147483587, 2147483579, 2147483563, 2147483549, 2147483543, 2147483497, 2147483489, 2147483477, 2147483423]
theorem prime_at (k : Int) (h0 : 0 ≤ k) (h : k < 11) : ∃ q : Int, atI (primes.map V.int) k = some (.int q) ∧ 2 ≤ q ∧ q < 2 ^ 31 := by
  have hk : k = 0 ∨ k = 1 ∨ k = 2 ∨ k = 3 ∨ k = 4 ∨ k = 5 ∨ k = 6 ∨ k = 7 ∨ k = 8 ∨ k = 9 ∨ k = 10 := by omega
  rcases hk with rfl | rfl | rfl | rfl | rfl | rfl | rfl | rfl | rfl | rfl | rfl
  all_goals exact ⟨_, rfl, by decide, by decide⟩
theorem fmod_pos (x : Int) {m : Int} (h : 1 ≤ m) : 0 ≤ x.fmod m ∧ x.fmod m < m := by
  rw [Int.fmod_eq_emod_of_nonneg x (by omega)]
  exact ⟨Int.emod_nonneg _ (by omega), Int.emod_lt_of_pos _ (by omega)⟩
end Nb

set_option Elab.async false
set_option maxRecDepth 100000
set_option maxHeartbeats 4000000
/-! A law whose own body asks for repr of nested data: its def is run where no repr is under way. -/
namespace Nb
open PySem PySem.Spec L2
/-- what the def promises, where no repr is under way -/
def RunsG (P : Program) (w : World) (K : PySem.W.Frag) (mg : Str → Option Value) (base : Heap) (CX : CXT) (k : Nat) (f : Addr) (fd : FuncData) (ps : List Str) (sp : Sp) : Prop :=
  ∀ (A : Around) (outer : List Env) (s : Shared) (H : Hp) (args : Args) (us : List Value) (vs : List V) (Q : VK) (E : XK), A.guards = some [] → Room k A → Env0 P w K mg base A outer s H → BindsTo s fd args (ps.zip us) → Vals vs us → sp vs H Q E →
    codeAny (model P w) A (.call (.ref f) args) (CR CX outer P w H s Q E) s
section
variable {P : Program} {w : World} {K : PySem.W.Frag} {mg : Str → Option Value} {base : Heap}
theorem okG {x qual : Str} {st : Stmt} {f : Addr} {fd : FuncData} {N ps : List Str} {k : Nat} {sp : Sp} (F : Fun K x qual st f fd) (S : FnScope N ps (defScope st)) (len : ∀ vs H Q E, sp vs H Q E → vs.length = ps.length)
    (bd : ∀ (cdv : Value) (A : Around) (outer : List Env) (s : Shared) (H : Hp) (vs : List V) (Q : VK) (E : XK), A.guards = some [] → Room k (A.deeper (PyProof.Rows.envOfC qual (defScope st) s.heap.objs.size f cdv)) → sp vs H Q E →
      ∃ t, PSs (cxOf CX0 P w K mg base N qual (defScope st) f cdv A outer s H E).nox (defBody st) t ∧ t { nx := fun _ H' => Q .non H', rt := Q } (start N vs) H) : RunsG P w K mg base CX0 (k + 1) f fd ps sp := by
  obtain ⟨oc, od, kV, doc, pm, an, cdv, ct, osl, rfl, lk, hcd⟩ := F.ex
  intro A outer s H args us vs Q E gd hr e0 hb rv hs
  have inK : K.In s.heap := e0.mod.kin.keeps fun b o e => (e0.bs b o e).1
  have nl : s.heap.NoLimit := e0.mod.nolimit.keeps fun b o e => (e0.bs b o e).1
  have kinds : ∀ y ∈ ps.zip us, (defScope st).names.lookup y.1 = some .local ∨ ((defScope st).names.lookup y.1 = some .cell ∧ ((PySem.cellsFrom (s.heap.objs.size + 1) (defScope st).names []).lookup y.1).isSome = true) := by
    rintro ⟨n, v⟩ hy
    exact (S.par n (List.of_mem_zip hy).1).imp id fun q => ⟨q, PySem.W.cellsFrom_some _ _ _ (.inl q)⟩
  refine codeAny_call_function hr.depth (inK _ _ lk) rfl S.co S.gen rfl (PySem.W.codeRec_of inK hcd) (hb _ _ _ _ ?_)
  refine wpAny_newFunctionEnv_cells S.kind kinds fun env he s1 x1 => ?_
  subst he
  obtain ⟨t, ht, q⟩ := bd cdv A outer s H vs Q E gd (hr.deeper _) hs
  have I : Inv (cxOf CX0 P w K mg base N qual (defScope st) f cdv A outer s H E) [] (start N vs) H s1 := inv_start S hr.hd e0 (len _ _ _ _ hs) rv x1
  refine ⟨nl.keeps x1.toInCall.keep, codeAny_func (wpAny_mono (ht.nox.run [] s1 (start N vs) H _ I q) (fun fl s2 r => ?_) fun _ _ r => r)⟩
  cases fl with
  | ret u =>
    obtain ⟨v, σ, H2, J, e, r⟩ := r
    exact ⟨v, H2, J.os, J.bare, J.base, J.hok, e, r⟩
  | next =>
    obtain ⟨σ, H2, J, r⟩ := r
    exact ⟨.non, H2, J.os, J.bare, J.base, J.hok, rfl, r⟩
  | brk => exact False.elim r.choose_spec.choose_spec.2
  | cont => exact False.elim r.choose_spec.choose_spec.2
end
open PyProof.Rows (IntsAre AllBare)
/-- the heap at the law's call: nothing is told but the script, if it is no object of the module -/
theorem script_heap {P : Program} {w : World} {K : PySem.W.Frag} {h : Heap} {a : Addr} {vs : List Value} {ns : List Int} (inK : K.In h) (ea : h.get? a = some { cls := .type "list", data := .seq vs.toArray }) (hi : IntsAre vs ns) (hl : ns.length ≤ sizeLine) :
    ∃ H : Hp, Only H ∧ SqL K H a (ns.map V.int) ∧ HOk P w H h ∧ ∀ b, H b ≠ none → b = a ∧ K.lookup b = none := by
  have rv := vals_ints hi
  cases hk : K.lookup a with
  | none =>
    obtain ⟨H, eH⟩ : ∃ H : Hp, H = upd (fun _ => none) a (.frz { cls := .type "list", data := .seq vs.toArray } (.lst (ns.map V.int))) := ⟨_, rfl⟩
    have at_a : H a = some (.frz { cls := .type "list", data := .seq vs.toArray } (.lst (ns.map V.int))) := by
      rw [eH]
      exact upd_same
    have off : ∀ b, b ≠ a → H b = none := fun b hb => by
      rw [eH, upd_ne hb]
    refine ⟨H, fun b => ?_, .inl (.inr ⟨_, at_a⟩), fun b o e => ?_, fun b e => ?_⟩
    · by_cases hb : b = a
      · exact .inr ⟨_, _, hb ▸ at_a⟩
      · exact .inl (off b hb)
    · by_cases hb : b = a
      · subst hb
        rw [at_a] at e
        cases e
        exact ⟨ea, by rw [List.length_map]; exact hl, vs, _, rv, ea⟩
      · rw [off b hb] at e
        cases e
    · by_cases hb : b = a
      · exact ⟨hb, hb ▸ hk⟩
      · exact absurd (off b hb) e
  | some o =>
    have e := inK a o hk
    rw [ea] at e
    cases e
    exact ⟨fun _ => none, fun _ => .inl rfl, .inr ⟨_, vs.toArray, _, hk, rfl, rfl, rfl, by rw [List.size_toArray, hi.length]; exact hl, by simpa using rv⟩, fun b u z => (nomatch (show (none : Option HO) = some u from z)), fun b z => absurd rfl z⟩
theorem law_runs {P : Program} {w : World} {K : PySem.W.Frag} {mg mb : Str → Option Value} {CX : CXT} {k : Nat} {fa a : Addr} {fd : FuncData} {x : Str} {sp : Sp} {s1 : Shared} {vs : List Value} {ns : List Int}
    (inK : K.In s1.heap) (n1 : s1.heap.Ns mainGlobals mg) (n2 : s1.heap.Ns builtinsNs mb) (n3 : ∀ x : Str, x ≠ "__name__" → mb x = bootBuiltins x) (n4 : s1.heap.NoLimit) (hg : s1.gens = #[])
    (ea : s1.heap.get? a = some { cls := .type "list", data := .seq vs.toArray }) (hi : IntsAre vs ns) (hl : ns.length ≤ sizeLine) (hr : Room k callerA)
    (F : ∀ base : Heap, K.In base → base.Ns mainGlobals mg → RunsG P w K mg base CX k fa fd [x] sp) (bd : ∀ (s : Shared) (u : Value), BindsTo s fd ⟨[u], []⟩ [(x, u)])
    (hs : ∀ H : Hp, Only H → SqL K H a (ns.map V.int) → sp [.ref a] H (fun v _ => v = .bl true) fun _ _ _ => False) (hx : ∀ H e s', CX [] H s1 (fun _ _ _ => False) e s' → False) :
    codeAny (model P w) callerA (.call (.ref fa) ⟨[.ref a], []⟩) (fun r s' => r = .ok (.ret (.bool true)) ∧ OldK s1.heap s'.heap ∧ s'.os = s1.os ∧ AllBare s'.gens) s1 := by
  obtain ⟨H, hO, hS, hok, hA⟩ := script_heap (P := P) (w := w) inK ea hi hl
  have notDict : ∀ {b : Addr} {o : Obj} {es : Array DictEntry} {ep : Nat}, s1.heap.get? b = some o → o.data = .dict es ep → H b = none := fun {b o es ep} e d => by
    cases q : H b with
    | none => rfl
    | some u =>
      obtain ⟨rfl, _⟩ := hA b (by rw [q]; exact fun z => nomatch z)
      rw [ea] at e
      cases e
      cases (show Data.seq vs.toArray _ = Data.dict es ep from d)
  have names : ∀ {b : Addr} {m : Str → Option Value}, s1.heap.Ns b m → (hidT s1.heap H).Ns b m := fun ⟨o, es, ep, e, d, r⟩ => ⟨o, es, ep, hidT_get e (notDict e d), d, r⟩
  have inB : K.In (hidT s1.heap H) := fun b o e => hidT_get (inK b o e) (by
    cases q : H b with
    | none => rfl
    | some u =>
      have z := (hA b (by rw [q]; exact fun z => nomatch z)).2
      rw [z] at e
      cases e)
  obtain ⟨mc, c1, c2⟩ := n4
  have e0 : Env0 P w K mg (hidT s1.heap H) callerA [] s1 H := ⟨rfl, ⟨inB, names n1, ⟨mb, names n2, n3⟩, ⟨mc, names c1, c2⟩⟩, fun b o e => of_hidT e, Nat.le_of_eq (hidT_size _ _), trivial, fun b hb => (nomatch hb), hok, .of_eq hg⟩
  refine codeAny_mono (F _ inB (names n1) callerA [] s1 H ⟨[.ref a], []⟩ [.ref a] [.ref a] _ _ rfl hr e0 (bd s1 (.ref a)) (.cons rfl .nil) (hs H hO hS)) fun r s2 q => ?_
  cases r with
  | error e => exact (hx H e s2 q).elim
  | ok fl =>
    cases fl with
    | ret u =>
      obtain ⟨v, H2, os, bare, un, hok2, r1, r2⟩ := q
      cases (show v = .bl true from r2)
      cases (show u = Value.bool true from r1)
      refine ⟨rfl, OldK.of_keep fun b o e => ?_, os, bare⟩
      rcases hO b with z | ⟨ob, xs, z⟩
      · exact un.keep b o e z (fun z => nomatch z) (fun z => nomatch z)
      · obtain ⟨g1, _⟩ := hok b _ z
        obtain ⟨g2, _⟩ := hok2 b _ (un.frzs b ob _ z)
        rw [e] at g1
        cases g1
        exact g2
    | next => exact False.elim q
    | brk => exact False.elim q
    | cont => exact False.elim q
/-- the head, where the law's own def is run with no repr under way -/
theorem walk_ofG {l : PySem.W.OpenLaw} {n k : Nat} {q : Program} {loose : List Str} {XP : (Str → Option Value) → Heap → Prop} {YP : World → Heap → Prop} {d : DefRec} {K : Params → PySem.W.Frag} {CX : World → CXT} {sp : World → Sp} {x : Str}
    (hn : l.most = some n) (hm : n ≤ sizeLine) (hd : d.params.defaults = []) (hr : Room k callerA) (hY : ∀ (w : World) (h : Heap), YP w h → (K w.params).In h)
    (F : ∀ (w : World) (mg : Str → Option Value) (fa : Addr) (h : Heap), (K w.params).In h → h.Ns mainGlobals mg → mg d.name = some (.ref fa) → ∃ fd : FuncData, (∀ (s : Shared) (u : Value), BindsTo s fd ⟨[u], []⟩ [(x, u)]) ∧
      ∀ base : Heap, (K w.params).In base → base.Ns mainGlobals mg → RunsG l.prog w (K w.params) mg base (CX w) k fa fd [x] (sp w))
    (hs : ∀ (w : World) (H : Hp) (a : Addr) (ns : List Int), ns.length ≤ n → Only H → SqL (K w.params) H a (ns.map V.int) → sp w [.ref a] H (fun v _ => v = .bl true) fun _ _ _ => False)
    (hx : ∀ (w : World) (H : Hp) (s : Shared) (e : Value) (s' : Shared), CX w [] H s (fun _ _ _ => False) e s' → False) : PySem.W.WalkO q loose XP YP l.row.toRowW d [] (fun f vs => PySem.call f vs) := by
  refine Att.attach_call hn hd fun w s0 s1 mg mb fa o pm cd doc a vs ns G Y e1 e2 e3 e4 ea hi hl hg => ?_
  obtain ⟨fd, bd, R⟩ := F w mg fa _ (hY w _ Y) G.T.g e4
  exact law_runs (hY w _ Y) G.T.g G.T.b G.T.builtins G.T.nolimit hg ea hi (Nat.le_trans hl hm) hr R bd (fun H hO hS => hs w H a ns hl hO hS) fun H e s' => hx w H s1 e s'
end Nb

set_option Elab.async false
set_option maxRecDepth 100000
set_option maxHeartbeats 4000000
/-! A def of the text that keeps its promise, with all that a caller must know of it. -/
namespace Nb
open PySem L2
structure Dn (P : Program) (w : World) (K : PySem.W.Frag) (mg : Str → Option Value) (base : Heap) (CX : CXT) (k : Nat) (x : Str) (ps : List Str) (sp : Sp) : Prop where
  ex : ∃ (f : Addr) (fd : FuncData), PySem.W.keepIn K (.ref f) = true ∧ Binds K fd ps [] ∧ mg x = some (.ref f) ∧ FnOk P w K mg base CX k f fd ps sp
theorem Dn.imp {P : Program} {w : World} {K : PySem.W.Frag} {mg : Str → Option Value} {base : Heap} {CX : CXT} {k : Nat} {x : Str} {ps : List Str} {sp sp' : Sp} (D : Dn P w K mg base CX k x ps sp) (h : ∀ vs H Q E, sp' vs H Q E → sp vs H Q E) : Dn P w K mg base CX k x ps sp' :=
  let ⟨f, fd, a, b, c, F⟩ := D.ex
  ⟨f, fd, a, b, c, F.imp h⟩
section
variable {X : Cx} {CX : CXT} {k : Nat} {ps : List Str} {sp : Sp} {E : XK} {W : L2.St → XK} {x : Str} {p pos : Pos} {e : Expr} {es : List Expr} {t : TA}
theorem pe_D (D : Dn X.prog X.w X.K X.mg X.base CX k x ps sp) (hr : Room k X.A) (hg : Gl X x) (hx : Passes CX X E) (ha : PA X (e :: es) t)
    (hdb : (x == ("__debug__" : Str)) = false := by decide) (he : starEach (e :: es) X.env = (false, eval e X.env) :: starEach es X.env := by rfl) (hpl : (backTo pos (starEach es X.env)).any (·.1) = false := by rfl) : PE X (.Call (.Name x p) (e :: es) [] pos) (tCall sp [] E t) :=
  let ⟨_, _, kp, b, g, G⟩ := D.ex
  pe_call G hr hg g kp b .nil hx ha hdb he hpl
theorem pe_D0 (D : Dn X.prog X.w X.K X.mg X.base CX k x ps sp) (hr : Room k X.A) (hg : Gl X x) (hx : Passes CX X E) (hdb : (x == ("__debug__" : Str)) = false := by decide) : PE X (.Call (.Name x p) [] [] pos) (tCall sp [] E tNil) :=
  let ⟨_, _, kp, b, g, G⟩ := D.ex
  pe_call0 G hr hg g kp b .nil hx hdb
theorem pe_DS (D : Dn X.prog X.w X.K X.mg X.base CX k x ps sp) (hr : Room k X.A) (hg : Gl X x) (hx : ∀ σ, PassesAt CX X σ (W σ)) (ha : PA X (e :: es) t)
    (hdb : (x == ("__debug__" : Str)) = false := by decide) (he : starEach (e :: es) X.env = (false, eval e X.env) :: starEach es X.env := by rfl) (hpl : (backTo pos (starEach es X.env)).any (·.1) = false := by rfl) : PE X (.Call (.Name x p) (e :: es) [] pos) (tCallS sp W t) :=
  let ⟨_, _, kp, b, g, G⟩ := D.ex
  pe_callS G hr hg g kp b hx ha hdb he hpl
end
end Nb

set_option Elab.async false
set_option maxRecDepth 100000
set_option maxHeartbeats 4000000
/-! The rules of new objects, told by what stood before: every heap that keeps what was told, with the new object in it. -/
namespace Nb
open PySem PySem.Spec PyProof.Rows
open L2 hiding del del_ne del_same
def aUp (t : TA) : TA := fun σ H Q => ∃ R : List V → Hp → Prop, t σ H R ∧ ∀ vs H1, R vs H1 → Q vs H1
def eUp (t : TE) : TE := fun σ H Q => ∃ R : VK, t σ H R ∧ ∀ v H1, R v H1 → Q v H1
section
variable {X : Cx} {e : Expr} {es : List Expr} {t u : TE} {ta : TA} {pos : Pos}
theorem PE.to (h : PE X e t) (k : ∀ σ H Q, u σ H Q → t σ H Q) : PE X e u := ⟨fun pins s σ H Q I z => h.run pins s σ H Q I (k _ _ _ z)⟩
theorem pa_up (h : PA X es ta) : PA X es (aUp ta) := ⟨fun pos pins s σ H _ I ⟨R, r, k⟩ => thn (h.run pos pins s σ H R I r) fun us s1 ⟨vs, H1, I1, r1, q⟩ => ⟨vs, H1, I1, r1, k vs H1 q⟩⟩
theorem pe_up (h : PE X e t) : PE X e (eUp t) := ⟨fun pins s σ H _ I ⟨R, r, k⟩ => thn (h.run pins s σ H R I r) fun us s1 ⟨v, H1, I1, r1, q⟩ => ⟨v, H1, I1, r1, k v H1 q⟩⟩
/-- [e, ..] -/
def tLstS (ta : TA) : TE := fun σ H Q => ta σ H fun vs H1 => vs.length ≤ 100000 ∧ ∀ H2 l, Same H1 H2 → H1 l = none → H2 l = some (.lst vs) → Q (.ref l) H2
theorem line100 {n : Nat} (h : n ≤ 100000) : n ≤ sizeLine := Nat.le_trans h (by decide)
theorem pe_lstS (h : PA X es ta) : PE X (.List es pos) (tLstS ta) := PE.to (pe_lst (pa_up h)) fun σ H Q z => ⟨_, z, fun vs H1 ⟨l, q⟩ => ⟨line100 l, fun a na => q _ a (same_new na) na upd_same⟩⟩
/-- (e, ..) -/
def tTupS (ta : TA) : TE := fun σ H Q => ta σ H fun vs H1 => vs.length ≤ 100000 ∧ ∀ H2 l, Same H1 H2 → H1 l = none → H2 l = some (.tup vs) → Q (.ref l) H2
theorem pe_tupS {c} (h : PA X es ta) : PE X (.Tuple es c pos) (tTupS ta) := PE.to (pe_tup (pa_up h)) fun σ H Q z => ⟨_, z, fun vs H1 ⟨l, q⟩ => ⟨line100 l, fun a na => q _ a (same_new na) na upd_same⟩⟩
theorem OpR.to {f : Value → Value → Sem Value} {r r' : R2} (h : OpR X f r) (k : ∀ x y H Q, r' x y H Q → r x y H Q) : OpR X f r' := fun pins s σ H x y v u Q I rx ry z => h pins s σ H x y v u Q I rx ry (k _ _ _ _ z)
theorem CallR.to {f : Value} {r r' : List V → Hp → VK → Prop} (h : CallR X f r) (k : ∀ xs H Q, r' xs H Q → r xs H Q) : CallR X f r' := fun pins s σ H xs us Q I rr z => h pins s σ H xs us Q I rr (k _ _ _ z)
/-- list + list -/
def rCatS : R2 := fun x y H Q => ∃ l b xs zs, x = .ref l ∧ y = .ref b ∧ H l = some (.lst xs) ∧ H b = some (.lst zs) ∧ xs.length + zs.length ≤ 100000 ∧ ∀ H2 p, Same H H2 → H p = none → H2 p = some (.lst (xs ++ zs)) → Q (.ref p) H2
theorem op_catS : OpR X (binaryOp .Add) rCatS := OpR.to op_cat fun x y H Q ⟨l, b, xs, zs, e1, e2, h1, h2, z, q⟩ => ⟨l, b, xs, zs, e1, e2, h1, h2, line100 z, fun p np => q _ p (same_new np) np upd_same⟩
/-- list * int -/
def rRepS : R2 := fun x y H Q => ∃ (l : Addr) (k : Nat) (xs : List V), x = .ref l ∧ y = .int k ∧ H l = some (.lst xs) ∧ k ≤ 100000 ∧ xs.length * k ≤ 100000 ∧ ∀ H2 p, Same H H2 → H p = none → H2 p = some (.lst (List.replicate k xs).flatten) → Q (.ref p) H2
theorem op_repS : OpR X (binaryOp .Mult) rRepS := OpR.to op_rep fun x y H Q ⟨l, k, xs, e1, e2, h1, h2, z, q⟩ => ⟨l, k, xs, e1, e2, h1, by omega, by omega, line100 z, fun p np => q _ p (same_new np) np upd_same⟩
/-- tuple + tuple -/
def rCatT (K : PySem.W.Frag) : R2 := fun x y H Q => ∃ a b xs ys, x = .ref a ∧ y = .ref b ∧ H a = some (.tup xs) ∧ H b = some (.tup ys) ∧ xs.length + ys.length ≤ 100000 ∧ ∀ H2 p, Same H H2 → H2 p = some (.tup (xs ++ ys)) → Q (.ref p) H2
theorem op_catT' : OpR X (binaryOp .Add) (rCatT X.K) := OpR.to op_catA fun x y H Q ⟨a, b, xs, ys, e1, e2, h1, h2, z, q⟩ => ⟨a, b, xs, ys, e1, e2, SqT.of h1, SqT.of h2, line100 z,
  fun e => q _ b (Same.refl H) (by rw [e]; exact h2), fun _ e => q _ a (Same.refl H) (by rw [e, List.append_nil]; exact h1), fun _ _ p np => q _ p (same_new np) upd_same⟩
/-- tuple(xs), list(xs) -/
theorem cr_tupleS : CallR X (.type "tuple") (fun xs H Q => ∃ p ys, xs = [.ref p] ∧ (H p = some (.lst ys) ∨ H p = some (.tup ys)) ∧ ∀ H2 l, Same H H2 → H2 l = some (.tup ys) → Q (.ref l) H2) :=
  CallR.to call_tuple_of fun xs H Q ⟨p, ys, e, h, q⟩ => ⟨p, ys, e, h.elim (fun h => .inl ⟨SqL.of h, fun l nl => q _ l (same_new nl) upd_same⟩) fun h => .inr ⟨SqT.of h, q H p (Same.refl H) h⟩⟩
theorem cr_listS : CallR X (.type "list") (fun xs H Q => ∃ p ys, xs = [.ref p] ∧ (SqL X.K H p ys ∨ SqT X.K H p ys) ∧ ∀ H2 l, Same H H2 → H l = none → H2 l = some (.lst ys) → Q (.ref l) H2) :=
  CallR.to call_list_of fun xs H Q ⟨p, ys, e, h, q⟩ => ⟨p, ys, e, h, fun l nl => q _ l (same_new nl) nl upd_same⟩
end
/-! ### defs that are run where no repr is under way -/
structure DnG (P : Program) (w : World) (K : PySem.W.Frag) (mg : Str → Option Value) (base : Heap) (CX : CXT) (k : Nat) (x : Str) (ps : List Str) (sp : Sp) : Prop where
  ex : ∃ (f : Addr) (fd : FuncData), PySem.W.keepIn K (.ref f) = true ∧ Binds K fd ps [] ∧ mg x = some (.ref f) ∧ (∀ vs H Q E, sp vs H Q E → vs.length = ps.length) ∧ RunsG P w K mg base CX k f fd ps sp
section
variable {X : Cx} {CX : CXT} {k : Nat} {ps : List Str} {sp : Sp} {E : XK} {x : Str} {p pos : Pos} {e : Expr} {es : List Expr} {t : TA}
theorem pe_DG (D : DnG X.prog X.w X.K X.mg X.base CX k x ps sp) (gd : X.A.guards = some []) (hr : Room k X.A) (hg : Gl X x) (hx : Passes CX X E) (ha : PA X (e :: es) t)
    (hdb : (x == ("__debug__" : Str)) = false := by decide) (he : starEach (e :: es) X.env = (false, eval e X.env) :: starEach es X.env := by rfl) (hpl : (backTo pos (starEach es X.env)).any (·.1) = false := by rfl) : PE X (.Call (.Name x p) (e :: es) [] pos) (tCall sp [] E t) := by
  obtain ⟨f, fd, kp, b, g, len, G⟩ := D.ex
  refine ⟨fun pins s σ H Q I h => wpAny_Call_Name_kw (ld_glob I hg g (PySem.W.callWith_K (h₀ := X.base) I.ok.mod.kin kp (thn (ha.run pos pins s σ H _ I h) fun us s1 ⟨vs, H1, I1, r, q⟩ => ⟨I1.kIn, ?_⟩) he hpl) hdb)⟩
  have q : sp vs H1 Q E := by
    have q' : sp (vs ++ []) H1 Q E := q
    rwa [List.append_nil] at q'
  have hl : (us ++ []).length = ps.length := by rw [List.append_nil, ← Paired.length r]; exact len _ _ _ _ q
  refine wpAny_call (codeAny_mono (G X.A X.stack s1 H1 ⟨us, []⟩ us vs Q E gd hr I1.env0 (by simpa using b s1 us I1.kIn hl) r q) fun r s' hq => ?_)
  cases r with
  | error e => exact hx pins σ H1 s1 e s' I1 hq
  | ok fl =>
    cases fl with
    | ret u => exact I1.after hq
    | next => exact False.elim hq
    | brk => exact False.elim hq
    | cont => exact False.elim hq
end
/-! ### repr of data in which empty dicts may stand -/
mutual
inductive Tz (H : Hp) : V → PyData → Prop
  | non : Tz H .non .none
  | bl (b) : Tz H (.bl b) (.bool b)
  | int (i) : Tz H (.int i) (.int i)
  | str (z) : Tz H (.str z) (.str z)
  | lst {a xs ds} : H a = some (.lst xs) → Tzs H xs ds → Tz H (.ref a) (.list ds)
  | tup {a xs ds} : H a = some (.tup xs) → Tzs H xs ds → Tz H (.ref a) (.tuple ds)
  | dct {a} : H a = some (.dK []) → Tz H (.ref a) (.dict [])
inductive Tzs (H : Hp) : List V → List PyData → Prop
  | nil : Tzs H [] []
  | cons {x d xs ds} : Tz H x d → Tzs H xs ds → Tzs H (x :: xs) (d :: ds)
end
mutual
theorem tz_same {H H' : Hp} (s : Same H H') : ∀ {x : V} {d : PyData}, Tz H x d → Tz H' x d
  | _, _, .non => .non
  | _, _, .bl b => .bl b
  | _, _, .int i => .int i
  | _, _, .str z => .str z
  | _, _, .lst e h => .lst (s _ _ e) (tzs_same s h)
  | _, _, .tup e h => .tup (s _ _ e) (tzs_same s h)
  | _, _, .dct e => .dct (s _ _ e)
theorem tzs_same {H H' : Hp} (s : Same H H') : ∀ {xs : List V} {ds : List PyData}, Tzs H xs ds → Tzs H' xs ds
  | _, _, .nil => .nil
  | _, _, .cons h k => .cons (tz_same s h) (tzs_same s k)
end
mutual
theorem tz_reads {X : Cx} {pins : List (Addr × Obj)} {σ : L2.St} {H : Hp} {s : Shared} (I : Inv X pins σ H s) : ∀ {x : V} {d : PyData} {u : Value}, Tz H x d → RelV x u → ∃ as, Reads s.heap u d as ∧ ∀ a ∈ as, H a ≠ none
  | _, _, _, .non, r => by cases r; exact ⟨_, .none, fun _ h => nomatch h⟩
  | _, _, _, .bl b, r => by cases r; exact ⟨_, .bool b, fun _ h => nomatch h⟩
  | _, _, _, .int i, r => by obtain ⟨t, rfl⟩ := r; exact ⟨_, .int i t, fun _ h => nomatch h⟩
  | _, _, _, .str z, r => by obtain ⟨t, rfl⟩ := r; exact ⟨_, .str z t, fun _ h => nomatch h⟩
  | _, _, _, .lst (a := a) e h, r => by
    cases r
    obtain ⟨its, rv, ⟨o, n, ho, hc, _, hd⟩, _⟩ := I.list (SqL.of e)
    obtain ⟨as, hr, al⟩ := tzs_reads I h rv
    refine ⟨_, .list ho hc hd hr, fun b hb => ?_⟩
    rcases List.mem_cons.mp hb with z | z
    · rw [z, e]
      exact fun q => nomatch q
    · exact al b z
  | _, _, _, .tup e h, r => by
    cases r
    obtain ⟨its, rv, ⟨o, ho, hc, n, hd⟩, _⟩ := I.tuple (SqT.of e)
    obtain ⟨as, hr, al⟩ := tzs_reads I h rv
    exact ⟨_, .tuple ho hc hd hr, al⟩
  | _, _, _, .dct (a := a) e, r => by
    cases r
    have ho : ObjOk X.prog X.w H s.heap a (.dK []) := I.hok a _ e
    obtain ⟨_, nm, vs, kv, o, es, ep, e1, e2, e3, _, e5, _⟩ := ho
    cases kv
    have e6 : es.toList = [] := by
      cases hz : es.toList with
      | nil => rfl
      | cons z zs =>
        rw [hz] at e5
        cases e5
    refine ⟨_, .dict (as := []) (bs := []) e1 e2.1 e3 (by rw [e6]; exact .nil) (by rw [e6]; exact .nil), fun b hb => ?_⟩
    have hb : b = a := by simpa using hb
    rw [hb, e]
    exact fun q => nomatch q
theorem tzs_reads {X : Cx} {pins : List (Addr × Obj)} {σ : L2.St} {H : Hp} {s : Shared} (I : Inv X pins σ H s) : ∀ {xs : List V} {ds : List PyData} {us : List Value}, Tzs H xs ds → Vals xs us → ∃ as, ReadsAll s.heap us ds as ∧ ∀ a ∈ as, H a ≠ none
  | _, _, _, .nil, r => by cases r; exact ⟨_, .nil, fun _ h => nomatch h⟩
  | _, _, _, .cons h k, r => by
    cases r with
    | cons r1 r2 =>
      obtain ⟨as, q1, a1⟩ := tz_reads I h r1
      obtain ⟨bs, q2, a2⟩ := tzs_reads I k r2
      exact ⟨_, .cons q1 q2, fun a ha => (List.mem_append.mp ha).elim (a1 a) (a2 a)⟩
end
/-- the module's table of modules is a written object -/
def SysIn (K : PySem.W.Frag) : Prop := (K.lookup sysModules).isSome = true
theorem cr_reprZ {X : Cx} (sy : SysIn X.K) (g : X.A.guards = some []) (u : X.A.units + 100 < cLine) : CallR X (.builtin "repr") (fun xs H Q => ∃ (x : V) (d : PyData), xs = [x] ∧ Tz H x d ∧ d.showable = true ∧ d.depth ≤ 60 ∧ d.shown.length ≤ sizeLine ∧ Q (.str d.shown) H) := by
  intro pins s σ H xs us Q I r h
  obtain ⟨x, d, rfl, hd, hs, hn, hz, q⟩ := h
  obtain ⟨v, rfl, rv⟩ := vals1 r
  obtain ⟨as, rd, al⟩ := tz_reads I hd rv
  obtain ⟨so, hso⟩ := Option.isSome_iff_exists.mp sy
  have nsy : sysModules ∉ as := fun hm => al _ hm (I.bs _ _ (I.ok.mod.kin _ _ hso)).2
  have byRef : ∀ a : Addr, v = .ref a → wpAny (model X.prog X.w) X.A (call (.builtin "repr") [v]) (EP X pins σ Q) X.xe s := fun a e => by
    subst e
    exact repr_of_reads' rd hs (fun _ => nsy) g (by omega) (fun _ _ e => e) (fun h' t tk hk => ⟨.str d.shown, H, I.kept (t' := tk) hk, ⟨_, rfl⟩, q⟩) hz
  cases hd with
  | non =>
    cases (show v = Value.none from rv)
    exact PySem.P.repr_of_none ⟨.str _, H, I.tok _, ⟨_, rfl⟩, q⟩
  | bl b =>
    cases (show v = Value.bool b from rv)
    exact PySem.P.repr_of_bool ⟨.str _, H, I.tok _, ⟨_, rfl⟩, q⟩
  | int i =>
    obtain ⟨t, rfl⟩ := rv
    exact PySem.P.repr_of_int (of_decide_eq_true hs) ⟨.str _, H, I.tok _, ⟨_, rfl⟩, q⟩
  | str z =>
    obtain ⟨t, rfl⟩ := rv
    exact PySem.P.repr_of_str ⟨.str _, H, I.tok _, ⟨_, rfl⟩, q⟩ hz
  | lst e ts => exact byRef _ rv
  | tup e ts => exact byRef _ rv
  | dct e => exact byRef _ rv
end Nb
namespace Nb
open PySem PySem.Spec PyProof.Rows
open L2 hiding del del_ne del_same
theorem eqv_bls : ∀ xs ys : List Bool, PyData.eqvAll (xs.map PyData.bool) (ys.map PyData.bool) = decide (xs = ys)
  | [], [] => rfl
  | [], y :: ys => rfl
  | x :: xs, [] => rfl
  | x :: xs, y :: ys => by
    have ih := eqv_bls xs ys
    simp only [List.map_cons, PyData.eqvAll, ih]
    cases x <;> cases y <;> simp [PyData.eqv]
theorem dp_bls {K : PySem.W.Frag} {H : Hp} : ∀ bs : List Bool, DpAll K H (bs.map V.bl) (bs.map PyData.bool)
  | [] => .nil
  | b :: bs => .cons (.bl b) (dp_bls bs)
theorem fine_bls (bs : List Bool) : Fine 1 (.list (bs.map PyData.bool)) := fine_list fun d hd => by
  obtain ⟨b, _, rfl⟩ := List.mem_map.mp hd
  exact fine_bl b
/-- lists of bools compared -/
def rBls (k : Bool → Bool) : R2 := fun x y H Q => ∃ (a b : Addr) (xs ys : List Bool), x = .ref a ∧ y = .ref b ∧ H a = some (.lst (xs.map V.bl)) ∧ H b = some (.lst (ys.map V.bl)) ∧ Q (.bl (k (decide (xs = ys)))) H
section
variable {X : Cx}
theorem op_eqBls (hu : X.A.units + 64 < cLine) : OpR X (compareOp .Eq) (rBls id) := OpR.to (op_eqD hu) fun x y H Q h => by
  obtain ⟨a, b, xs, ys, rfl, rfl, h1, h2, q⟩ := h
  refine ⟨.list (xs.map PyData.bool), .list (ys.map PyData.bool), .lst (SqL.of h1) (dp_bls xs), .lst (SqL.of h2) (dp_bls ys), (fine_bls xs).shaped (by decide), (fine_bls ys).shaped (by decide), ?_⟩
  have e : PyData.eqv (.list (xs.map PyData.bool)) (.list (ys.map PyData.bool)) = decide (xs = ys) := by rw [← eqv_bls]; simp [PyData.eqv]
  rw [e]
  exact q
theorem op_neBls (hu : X.A.units + 64 < cLine) : OpR X (compareOp .NotEq) (rBls not) := OpR.to (op_neD hu) fun x y H Q h => by
  obtain ⟨a, b, xs, ys, rfl, rfl, h1, h2, q⟩ := h
  refine ⟨.list (xs.map PyData.bool), .list (ys.map PyData.bool), .lst (SqL.of h1) (dp_bls xs), .lst (SqL.of h2) (dp_bls ys), (fine_bls xs).shaped (by decide), (fine_bls ys).shaped (by decide), ?_⟩
  have e : PyData.eqv (.list (xs.map PyData.bool)) (.list (ys.map PyData.bool)) = decide (xs = ys) := by rw [← eqv_bls]; simp [PyData.eqv]
  rw [e]
  exact q
end
end Nb
namespace Nb
open PySem PySem.Spec PyProof.Rows
open L2 hiding del del_ne del_same
theorem eqv_ints : ∀ xs ys : List Int, PyData.eqvAll (xs.map PyData.int) (ys.map PyData.int) = decide (xs = ys)
  | [], [] => rfl
  | [], y :: ys => rfl
  | x :: xs, [] => rfl
  | x :: xs, y :: ys => by
    simp only [List.map_cons, PyData.eqvAll, eqv_ints xs ys, PyData.eqv]
    rw [Bool.eq_iff_iff]
    simp
/-- lists of ints compared -/
def rInts (k : Bool → Bool) : R2 := fun x y H Q => ∃ (a b : Addr) (xs ys : List Int), x = .ref a ∧ y = .ref b ∧ H a = some (.lst (xs.map V.int)) ∧ H b = some (.lst (ys.map V.int)) ∧ Q (.bl (k (decide (xs = ys)))) H
section
variable {X : Cx}
theorem op_eqInts (hu : X.A.units + 64 < cLine) : OpR X (compareOp .Eq) (rInts id) := OpR.to (op_eqD hu) fun x y H Q h => by
  obtain ⟨a, b, xs, ys, rfl, rfl, h1, h2, q⟩ := h
  refine ⟨.list (xs.map PyData.int), .list (ys.map PyData.int), .lst (SqL.of h1) (dp_ints xs), .lst (SqL.of h2) (dp_ints ys), (fine_ints xs).shaped (by decide), (fine_ints ys).shaped (by decide), ?_⟩
  have e : PyData.eqv (.list (xs.map PyData.int)) (.list (ys.map PyData.int)) = decide (xs = ys) := by rw [← eqv_ints]; simp [PyData.eqv]
  rw [e]
  exact q
theorem op_neInts (hu : X.A.units + 64 < cLine) : OpR X (compareOp .NotEq) (rInts not) := OpR.to (op_neD hu) fun x y H Q h => by
  obtain ⟨a, b, xs, ys, rfl, rfl, h1, h2, q⟩ := h
  refine ⟨.list (xs.map PyData.int), .list (ys.map PyData.int), .lst (SqL.of h1) (dp_ints xs), .lst (SqL.of h2) (dp_ints ys), (fine_ints xs).shaped (by decide), (fine_ints ys).shaped (by decide), ?_⟩
  have e : PyData.eqv (.list (xs.map PyData.int)) (.list (ys.map PyData.int)) = decide (xs = ys) := by rw [← eqv_ints]; simp [PyData.eqv]
  rw [e]
  exact q
/-- {} -/
theorem pe_dnewS {pos : Pos} : PE X (.Dict [] [] pos) (fun _ H Q => ∀ H2 d, Same H H2 → H d = none → H2 d = some (.dK []) → Q (.ref d) H2) := PE.to pe_dnewK fun σ H Q z d hd => z _ d (same_new hd) hd upd_same
end
theorem tzs_rep {H : Hp} {x : V} {d : PyData} (h : Tz H x d) : ∀ n, Tzs H (List.replicate n x) (List.replicate n d)
  | 0 => .nil
  | n + 1 => .cons h (tzs_rep h n)
/-- what stands in a heap beside the source -/
theorem del_keep {H : Hp} {p a : Addr} {o : HO} (e : H a = some o) (n : a ≠ p) : del H p a = some o := by rw [del_ne n]; exact e
theorem same_upd {F H : Hp} {p : Addr} (s : Same F H) (h : F p = none) : Same F (del H p) := same_del s h
theorem del_mono {H H' : Hp} {p : Addr} (s : Same H H') : Same (del H p) (del H' p) := same_del (del_same.trans s) del_at
theorem src_away {H : Hp} {p l : Addr} {b : Nat} (S : Src H p b) (h : H l = none) : l ≠ p := fun z => by
  obtain ⟨c, n, r, e, _⟩ := S
  rw [z, e] at h
  cases h
end Nb
namespace Nb
open PySem L2
theorem un100 {k : Nat} {A : Around} (hr : Room k A) : A.units + 100 < cLine := by
  have := hr.un
  omega
end Nb
namespace Nb
open PySem L2
/-- a law's own promise -/
def spLaw0 (K : PySem.W.Frag) : Sp := fun vs H Q _ => ∃ (a : Addr) (ns : List Int), vs = [.ref a] ∧ SqL K H a (ns.map V.int) ∧ ns.length ≤ 63 ∧ ∀ H', Q (.bl true) H'
end Nb

set_option Elab.async false
set_option linter.all false
set_option maxRecDepth 100000
set_option maxHeartbeats 4000000
/-! repr of a list that holds one thing many times, also where this thing is an empty dict. -/
namespace Nb
open PySem PySem.Spec PyProof.Rows
open L2 hiding del del_ne del_same
theorem shows_list {prog : Program} {w : World} {h0 : Heap} {l : Addr} {ob : Obj} {us : Array Value} {n : Nat} {ds : List PyData} {as : List Addr} (e1 : h0.get? l = some ob) (e2 : ob.cls = .type "list") (e3 : ob.data = .seq us n) (rd : ReadsAll h0 us.toList ds as)
    (ok : PyData.showableAll ds = true) (away : PyData.hasDictAll ds = true → sysModules ∉ as) (few : (listText (PyData.shownAll ds)).length ≤ sizeLine) : ShowsBy prog w h0 l (.list ds) "list" "list.__repr__" := by
  obtain ⟨bs, most, each⟩ := ReprAllK.of_readsAll (prog := prog) (w := w) rd ok away fun t ht => Nat.le_trans (listText_mem_le ht) few
  have off : l ∉ bs := not_mem_of_deeper (.list e1 e2 e3 rd) (by simp only [PyData.depth]; omega) most
  refine { slotRepr := F.slot_list_repr.toG, slotStr := F.slot_list_str, slotFmt := F.slot_list_format, typeIs := fun s k => ⟨ob, k _ _ e1, e2⟩, call := fun A E s Q g u k q => ?_ }
  simp only [PyData.depth] at u
  simp only [PyData.shown] at q
  obtain ⟨us⟩ := us
  cases us with
  | nil =>
    cases (show ReadsAll h0 [] ds as from rd)
    simp only [PyData.shownAll, listText_nil] at q
    exact call_list_repr_empty ⟨ob, k _ _ e1, e2⟩ (k _ _ e1) e3 (q s.heap _ _ fun _ _ z => z)
  | cons u0 us => exact call_list_reprK e1 e2 e3 off (by simpa using each.length_eq) (fun i y z => each.item i y (by simpa using z)) g (fun b _ => Clear.nil b) u k q few
theorem vals_rep {x : V} : ∀ {n : Nat} {us : List Value}, Vals (List.replicate n x) us → ∀ u ∈ us, RelV x u
  | 0, _, h, u, hu => by cases h; cases hu
  | n + 1, _, h, u, hu => by
    cases h with
    | cons h1 h2 =>
      rcases List.mem_cons.mp hu with rfl | z
      · exact h1
      · exact vals_rep h2 u z
theorem reads_rep {h : Heap} {d : PyData} {as : List Addr} : ∀ {us : List Value}, (∀ u ∈ us, ∃ bs, Reads h u d bs ∧ ∀ b ∈ bs, b ∈ as) → ∃ bs, ReadsAll h us (List.replicate us.length d) bs ∧ ∀ b ∈ bs, b ∈ as
  | [], _ => ⟨[], .nil, fun _ z => nomatch z⟩
  | u :: us, k => by
    obtain ⟨b1, r1, m1⟩ := k u (List.mem_cons_self ..)
    obtain ⟨b2, r2, m2⟩ := reads_rep (us := us) fun v hv => k v (List.mem_cons_of_mem _ hv)
    exact ⟨b1 ++ b2, .cons r1 r2, fun b hb => (List.mem_append.mp hb).elim (m1 b) (m2 b)⟩
/-- a thing without a dict in it, or an empty dict -/
def One (H : Hp) (x : V) (d : PyData) : Prop := (Tz H x d ∧ d.hasDict = false) ∨ d = .dict [] ∧ ∃ a, x = .ref a ∧ H a = some (.dK [])
theorem one_same {H H' : Hp} (s : Same H H') {x : V} {d : PyData} (h : One H x d) : One H' x d := h.elim (fun h => .inl ⟨tz_same s h.1, h.2⟩) fun ⟨e, a, z, k⟩ => .inr ⟨e, a, z, s _ _ k⟩
theorem cr_reprRep {X : Cx} (g : X.A.guards = some []) (u : X.A.units + 100 < cLine) : CallR X (.builtin "repr") (fun xs H Q => ∃ (l : Addr) (x : V) (n : Nat) (d : PyData), xs = [.ref l] ∧ H l = some (.lst (List.replicate n x)) ∧ One H x d ∧
    (PyData.list (List.replicate n d)).showable = true ∧ (PyData.list (List.replicate n d)).depth ≤ 60 ∧ (PyData.list (List.replicate n d)).shown.length ≤ sizeLine ∧ Q (.str (PyData.list (List.replicate n d)).shown) H) := by
  intro pins s σ H xs us Q I r h
  obtain ⟨l, x, n, d, rfl, hl, hx, ok, dp, few, q⟩ := h
  obtain ⟨v, rfl, rv⟩ := vals1 r
  cases rv
  obtain ⟨its, ri, ⟨ob, n2, e1, e2, _, e3⟩, _⟩ := I.list (SqL.of hl)
  have len : its.length = n := by rw [← Paired.length ri, List.length_replicate]
  obtain ⟨as, each, away⟩ : ∃ as : List Addr, (∀ u ∈ its, ∃ bs, Reads s.heap u d bs ∧ ∀ b ∈ bs, b ∈ as) ∧ (d.hasDict = true → sysModules ∉ as) := by
    rcases hx with ⟨hx, nd⟩ | ⟨rfl, a, rfl, ha⟩
    · have key : ∀ us : List Value, (∀ u ∈ us, RelV x u) → ∃ as : List Addr, ∀ u ∈ us, ∃ bs, Reads s.heap u d bs ∧ ∀ b ∈ bs, b ∈ as := by
        intro us
        induction us with
        | nil => exact fun _ => ⟨[], fun _ z => nomatch z⟩
        | cons u us ih =>
          intro k
          obtain ⟨b1, r1, _⟩ := tz_reads I hx (k u (List.mem_cons_self ..))
          obtain ⟨b2, m2⟩ := ih fun v hv => k v (List.mem_cons_of_mem _ hv)
          refine ⟨b1 ++ b2, fun v hv => ?_⟩
          rcases List.mem_cons.mp hv with rfl | z
          · exact ⟨b1, r1, fun b hb => List.mem_append_left _ hb⟩
          · obtain ⟨bs, r3, m3⟩ := m2 v z
            exact ⟨bs, r3, fun b hb => List.mem_append_right _ (m3 b hb)⟩
      obtain ⟨as, m⟩ := key its (vals_rep ri)
      exact ⟨as, m, fun z => by rw [nd] at z; cases z⟩
    · have ho : ObjOk X.prog X.w H s.heap a (.dK []) := I.hok a _ ha
      obtain ⟨_, nm, vs, kv, o, es, ep, d1, d2, d3, _, d5, _⟩ := ho
      cases kv
      have d6 : es.toList = [] := by
        cases hz : es.toList with
        | nil => rfl
        | cons z zs =>
          rw [hz] at d5
          cases d5
      refine ⟨[a], fun u hu => ?_, fun _ hm => ?_⟩
      · cases vals_rep ri u hu
        exact ⟨_, .dict (as := []) (bs := []) d1 d2.1 d3 (by rw [d6]; exact .nil) (by rw [d6]; exact .nil), fun b hb => by simpa using hb⟩
      · have : sysModules = a := by simpa using hm
        rw [this] at nm
        exact absurd nm (by simp)
  obtain ⟨bs, rd, mem⟩ := reads_rep each
  rw [len] at rd
  have S := shows_list (prog := X.prog) (w := X.w) (l := l) e1 e2 e3 (by simpa using rd) (by simpa [PyData.showable] using ok) (fun hd hm => ?_) (by simpa only [PyData.shown] using few)
  · exact call_repr_slot (by omega) (S.typeIs s fun _ _ z => z) S.slotRepr (S.call X.A.in1 _ s _ g (by show X.A.units + 1 + _ < cLine; omega) (fun _ _ z => z) fun h' t tk hk => ⟨_, _, rfl, ⟨.str _, H, I.kept (t' := tk) hk, ⟨_, rfl⟩, q⟩⟩)
  · refine away ?_ (mem _ hm)
    have key : ∀ n, PyData.hasDictAll (List.replicate n d) = true → d.hasDict = true := by
      intro n
      induction n with
      | zero => exact fun z => by cases z
      | succ n ih =>
        intro z
        rw [List.replicate_succ] at z
        simp only [PyData.hasDictAll, Bool.or_eq_true] at z
        exact z.elim id ih
    exact key n hd
end Nb

set_option Elab.async false
set_option linter.all false
set_option maxRecDepth 100000
set_option maxHeartbeats 4000000
/-! Comprehensions that change nothing that was told: what they give, item by item. -/
namespace Nb
open PySem
open L2 hiding del del_ne del_same
/-- item by item -/
inductive F2 {α β : Type} (R : α → β → Prop) : List α → List β → Prop
  | nil : F2 R [] []
  | cons {x y xs ys} : R x y → F2 R xs ys → F2 R (x :: xs) (y :: ys)
theorem f2_snoc {α β : Type} {R : α → β → Prop} : ∀ {xs : List α} {ys : List β} {x : α} {y : β}, F2 R xs ys → R x y → F2 R (xs ++ [x]) (ys ++ [y])
  | _, _, _, _, .nil, h => .cons h .nil
  | _, _, _, _, .cons a b, h => .cons a (f2_snoc b h)
theorem f2_imp {α β : Type} {R S : α → β → Prop} (k : ∀ a b, R a b → S a b) : ∀ {xs : List α} {ys : List β}, F2 R xs ys → F2 S xs ys
  | _, _, .nil => .nil
  | _, _, .cons a b => .cons (k _ _ a) (f2_imp k b)
theorem f2_len {α β : Type} {R : α → β → Prop} : ∀ {xs : List α} {ys : List β}, F2 R xs ys → xs.length = ys.length
  | _, _, .nil => rfl
  | _, _, .cons _ b => congrArg (· + 1) (f2_len b)
theorem f2_map {α β : Type} {f : α → β} : ∀ {xs : List α} {ys : List β}, F2 (fun x y => y = f x) xs ys → ys = xs.map f
  | _, _, .nil => rfl
  | _, _, .cons a b => by rw [a, f2_map b]; rfl
theorem f2_get {α β : Type} {R : α → β → Prop} : ∀ {xs : List α} {ys : List β} {i : Nat} {y : β}, F2 R xs ys → ys[i]? = some y → ∃ x, xs[i]? = some x ∧ R x y
  | _, _, 0, _, .cons (x := x) a _, h => ⟨x, rfl, by cases h; exact a⟩
  | _, _, i + 1, _, .cons _ b, h => f2_get (i := i) b h
theorem f2_getl {α β : Type} {R : α → β → Prop} : ∀ {xs : List α} {ys : List β} {i : Nat} {x : α}, F2 R xs ys → xs[i]? = some x → ∃ y, ys[i]? = some y ∧ R x y
  | _, _, 0, _, .cons (y := y) a _, h => ⟨y, rfl, by cases h; exact a⟩
  | _, _, i + 1, _, .cons _ b, h => f2_getl (i := i) b h
section
variable {J : It} {n : Nat} {G : Hp → Prop} {Y : Nat → Hp → V → Hp → Prop} {g : TG} {tt : TT} {te : TE} {vs : List Nat} {σ : L2.St} {H1 : Hp} {D : Addr} {Qd : Hp → Prop}
/-- what a comprehension's rule asks for behind the new list -/
def LcGoal (J : It) (g : TG) (tt : TT) (te : TE) (vs : List Nat) (σ : L2.St) (H1 : Hp) (D : Addr) (Qd : Hp → Prop) : Prop :=
    ∃ W : Nat → Nat → Hp → Prop, (∃ m, W 0 m (upd H1 D (.lst []))) ∧ ∀ i m H, W i m H →
      (J.stop i H ∧ Qd H) ∨ (J.go i H ∧ ∃ Nx : Hp → Prop, (∀ H', Nx H' → ∃ m', m' < m ∧ W (i + 1) m' H') ∧ ∀ x H', J.yld i H x H' → g x (wipe σ vs) H' fun σ2 H2 => wipe σ2 vs = wipe σ vs ∧ tt σ2 H2 fun b H3 =>
        if b = true then te σ2 H3 fun y H4 => ∃ acc, H4 D = some (.lst acc) ∧ acc.length < sizeLine ∧ Nx (upd H4 D (.lst (acc ++ [y]))) else Nx H3)
/-- the items are told by R, under which nothing that is told is lost -/
theorem lcR (w : Walk J n G Y) (p : Nat → Bool) (R : Nat → V → Hp → Prop) (hR : ∀ i y H H', Same H H' → R i y H → R i y H') (hn : n ≤ 100000) (hD : H1 D = none) (hG : ∀ H, Same H1 H → G H)
    (hs : ∀ i x H H' (Nx : VK) (Nf : Hp → Prop), i < n → Same H1 H → H D ≠ none → Y i H x H' → (p i = true → ∀ y H4, Same H H4 → R i y (del H4 D) → Nx y H4) → (p i = false → ∀ H3, Same H H3 → Nf H3) →
      g x (wipe σ vs) H' fun σ2 H2 => wipe σ2 vs = wipe σ vs ∧ tt σ2 H2 fun b H3 => if b = true then te σ2 H3 Nx else Nf H3)
    (hd : ∀ H ys, Same H1 H → H D = some (.lst ys) → F2 (fun i y => R i y H) ((List.range n).filter p) ys → Qd H) : LcGoal J g tt te vs σ H1 D Qd := by
  refine lc_it w (fun i H => ∃ ys, Same H1 H ∧ H D = some (.lst ys) ∧ F2 (fun j y => R j y (del H D)) ((List.range i).filter p) ys)
    ⟨[], same_new hD, upd_same, .nil⟩ (fun i H _ ⟨_, s, _⟩ => hG H s) (fun i x H H' hi ⟨ys, s, e, f⟩ y => ?_) (fun H ⟨ys, s, e, f⟩ => hd H ys s e (f2_imp (fun a b k => hR _ _ _ _ del_same k) f))
  have hl : ys.length ≤ i := by
    rw [← f2_len f]
    exact Nat.le_trans (List.length_filter_le _ _) (by rw [List.length_range]; exact Nat.le_refl _)
  have up : ∀ {H4 : Hp}, Same H H4 → Same (del H D) (del H4 D) := fun s4 => same_del (del_same.trans s4) del_at
  have un : ∀ {H4 : Hp} {o : HO}, del (upd H4 D o) D = del H4 D := fun {H4 o} => by
    funext b
    by_cases h : b = D
    · rw [h, del_at, del_at]
    · rw [del_ne h, del_ne h, upd_ne h]
  refine hs i x H H' _ _ hi s (by rw [e]; exact fun z => nomatch z) y (fun hp v H4 s4 r => ⟨ys, s4 _ _ e, ?_, ys ++ [v], same_at (s.trans s4) hD, upd_same, ?_⟩) (fun hp H3 s3 => ⟨ys, s.trans s3, s3 _ _ e, ?_⟩)
  · exact Nat.lt_of_le_of_lt hl (Nat.lt_of_lt_of_le hi (line100 hn))
  · rw [List.range_succ, List.filter_append, un]
    have e1 : [i].filter p = [i] := by simp [hp]
    rw [e1]
    exact f2_snoc (f2_imp (fun a b k => hR _ _ _ _ (up s4) k) f) r
  · rw [List.range_succ, List.filter_append]
    have e1 : [i].filter p = [] := by simp [hp]
    rw [e1, List.append_nil]
    exact f2_imp (fun a b k => hR _ _ _ _ (up s3) k) f
/-- the items are values that stand in no heap, or stood before -/
theorem lcS (w : Walk J n G Y) (p : Nat → Bool) (f : Nat → V) (hn : n ≤ 100000) (hD : H1 D = none) (hG : ∀ H, Same H1 H → G H)
    (hs : ∀ i x H H' (Nx : VK) (Nf : Hp → Prop), i < n → Same H1 H → Y i H x H' → (p i = true → ∀ H4, Same H H4 → Nx (f i) H4) → (p i = false → ∀ H3, Same H H3 → Nf H3) →
      g x (wipe σ vs) H' fun σ2 H2 => wipe σ2 vs = wipe σ vs ∧ tt σ2 H2 fun b H3 => if b = true then te σ2 H3 Nx else Nf H3)
    (hd : ∀ H, Same H1 H → H D = some (.lst (((List.range n).filter p).map f)) → Qd H) : LcGoal J g tt te vs σ H1 D Qd :=
  lcR w p (fun i y _ => y = f i) (fun _ _ _ _ _ z => z) hn hD hG (fun i x H H' Nx Nf hi s _ y k1 k2 => hs i x H H' Nx Nf hi s y (fun hp H4 s4 => k1 hp _ H4 s4 rfl) k2) fun H ys s e f2 => hd H s (by rw [e, f2_map f2])
/-- without an if -/
theorem lcM (w : Walk J n G Y) (f : Nat → V) (hn : n ≤ 100000) (hD : H1 D = none) (hG : ∀ H, Same H1 H → G H)
    (hs : ∀ i x H H' (Nx : VK), i < n → Same H1 H → Y i H x H' → (∀ H4, Same H H4 → Nx (f i) H4) →
      g x (wipe σ vs) H' fun σ2 H2 => wipe σ2 vs = wipe σ vs ∧ te σ2 H2 Nx)
    (hd : ∀ H, Same H1 H → H D = some (.lst ((List.range n).map f)) → Qd H) : LcGoal J g tYes te vs σ H1 D Qd :=
  lcS w (fun _ => true) f hn hD hG (fun i x H H' Nx Nf hi s y k1 k2 => hs i x H H' Nx hi s y (k1 rfl)) fun H s e => hd H s (by rw [e, List.filter_eq_self.mpr fun _ _ => rfl])
end
end Nb

set_option Elab.async false
set_option maxRecDepth 100000
/-! How many different texts a tuple holds: the value of len(set(t)). -/
namespace Nb
open PySem PySem.Spec PyProof.Rows L2
/-- the different texts of a list, each where it is met first -/
def dis : List Str → List Str
  | [] => []
  | x :: r => x :: (dis r).filter (fun y => !(y == x))
/-- seen so far: one text more -/
def grow (l : List Str) (x : Str) : List Str := if l.any (· == x) then l else l ++ [x]
def seen (xs : List Str) : List Str := xs.foldl grow []
theorem seen_snoc (xs : List Str) (x : Str) : seen (xs ++ [x]) = grow (seen xs) x := by
  unfold seen
  rw [List.foldl_append]
  rfl
theorem grow_any (l : List Str) (x k : Str) : (grow l x).any (· == k) = (l.any (· == k) || decide (k = x)) := by
  unfold grow
  by_cases h : l.any (· == x) = true
  · rw [if_pos h]
    by_cases e : k = x
    · subst e
      rw [h]
      rfl
    · simp [e]
  · rw [if_neg h, List.any_append]
    by_cases e : k = x
    · subst e
      simp
    · have e2 : (x == k) = false := beq_eq_false_iff_ne.mpr fun z => e z.symm
      simp [e, e2]
theorem grow_len (l : List Str) (x : Str) : (grow l x).length = if l.any (· == x) = true then l.length else l.length + 1 := by
  unfold grow
  split <;> simp
theorem grow_le (l : List Str) (x : Str) : (grow l x).length ≤ l.length + 1 := by
  rw [grow_len]
  split <;> omega
theorem seen_le : ∀ xs : List Str, (seen xs).length ≤ xs.length := by
  have key : ∀ (xs l : List Str), (xs.foldl grow l).length ≤ l.length + xs.length := by
    intro xs
    induction xs with
    | nil => intro l; exact Nat.le_refl _
    | cons x r ih =>
      intro l
      have h1 := ih (grow l x)
      have h2 := grow_le l x
      show (r.foldl grow (grow l x)).length ≤ l.length + (r.length + 1)
      omega
  intro xs
  have h := key xs []
  simpa [seen] using h

section
variable {P : Program} {w : World} {A : Around} {E : Value → Shared → Prop} {s : Shared}
abbrev SetS (P : Program) (w : World) (h : Heap) (S : Addr) (l : List Str) : Prop := h.SetOf (PySem.strKind P w) S (fun k => l.any (· == k)) l.length
theorem SetS.to {h h' : Heap} {S : Addr} {l : List Str} (x : SetS P w h S l) (k : ∀ o, h.get? S = some o → h'.get? S = some o) : SetS P w h' S l :=
  let ⟨o, es, ep, t, ho, r⟩ := x
  ⟨o, es, ep, t, k o ho, r⟩
/-- the set takes what is walked, text by text -/
theorem takes_texts {I : Addr} {fp wr : List Addr} {G : Array GenState → Array GenState → Prop} {n : Nat} {Pv : Nat → Value → Prop} {St : Nat → Shared → Prop} {R : Result → Shared → Prop}
    (W : WalksS P w A.in1 I fp wr G n Pv St) (S : Addr) (apart : S ∉ fp) (xs : List Str) (size : n = xs.length) (few : xs.length + 1 < scanBound) (val : ∀ i v, Pv i v → ∃ x t, xs[i]? = some x ∧ v = .str x t) :
    ∀ (m i : Nat) (s : Shared), m + i = n → St i s → SetS P w s.heap S (seen (xs.take i)) →
      (∀ s', Moved (S :: wr) G s s' → SetS P w s'.heap S (seen xs) → R (.ok (.ret .none)) s') → codeAny (model P w) A (.builtin "set.update.loop" ⟨[.ref S, .ref I], []⟩) R s := by
  have out : S ∉ wr := fun z => apart (W.sub _ z)
  have wide : ∀ b ∈ wr, b ∈ S :: wr := fun b z => List.mem_cons_of_mem _ z
  intro m
  induction m with
  | zero =>
    intro i s em here held fin
    refine codeAny_builtin F.entry_set_update_loop (by
      rw [Around.under_plainId F.plain_set_update_loop _]
      refine wpAny_bind (m := pyNext (.ref I)) (W.done s _ _ (by rw [← em, Nat.zero_add]; exact here) fun s' mv => ?_)
      refine wpAny_pure (fin s' (mv.mono wide) ?_)
      have all : xs.take i = xs := List.take_of_length_le (by omega)
      rw [all] at held
      exact held.to fun o e => mv.heap S o out e)
  | succ m ih =>
    intro i s em here held fin
    refine codeAny_builtin F.entry_set_update_loop (by
      rw [Around.under_plainId F.plain_set_update_loop _]
      refine wpAny_bind (m := pyNext (.ref I)) (W.item i s _ _ (by omega) here fun v s' hv here' mv => ?_)
      obtain ⟨x, t, ex, rfl⟩ := val i v hv
      have held' : SetS P w s'.heap S (seen (xs.take i)) := held.to fun o e => mv.heap S o out e
      refine wpAny_bind (m := holding [Value.str x t] (setAdd S (.str x t))) (wpAny_holding ?_)
      unfold setAdd
      refine wpAny_holding (wpAny_bind ((PySem.strKind P w).pyHash (k := x) (strKind_is _ _ _ _) ?_))
      have room : (seen (xs.take i)).length + 1 < scanBound := by
        have h1 := seen_le (xs.take i)
        have h2 : (xs.take i).length ≤ xs.length := by rw [List.length_take]; omega
        omega
      refine wpAny_setAddHashed_of (knd := PySem.strKind P w) (s := { s' with toks := s'.toks + 1 }) (strKind_is _ _ _ _) rfl held' room fun h' only more => ?_
      have step : seen (xs.take (i + 1)) = grow (seen (xs.take i)) x := by
        rw [List.take_add_one, ex]
        exact seen_snoc _ _
      have held2 : SetS P w h' S (seen (xs.take (i + 1))) := by
        rw [step]
        exact SetOf_congr more (fun k => (grow_any _ _ _).symm) (grow_len _ _).symm
      have still : ∀ b, b ≠ S → ∀ o, s'.heap.get? b = some o → h'.get? b = some o := fun b nb o e => by
        rw [only.2 b nb]
        exact e
      exact wpAny_pure ⟨plainId_quiet F.plain_set_update_loop _, ih (i + 1) _ (by omega) (W.frame _ s' _ _ here' (Nat.le_succ _) fun b hb o e => still b (fun z => apart (z ▸ hb)) o e) held2 fun s2 mv2 held3 =>
        fin s2 (Moved.trans W.gtrans ((mv.mono wide).then_heap (Nat.le_succ _) fun b o hb e => still b (fun z => hb (z ▸ List.mem_cons_self)) o e) mv2) held3⟩)
/-- an empty set as it is laid -/
abbrev bareSet (led : Bool) : Obj := { cls := .type "set", dict := none, data := .set #[] 0 (.fresh 0 0 led) }
set_option maxHeartbeats 3200000 in
/-- set(t), t a tuple of texts -/
theorem set_of_texts {l : Addr} {items : Array Value} {xs : List Str} {Q : Value → Shared → Prop} (calm : A.handled = none) (tup : s.heap.IsTuple l items) (txt : StrsAre items.toList xs) (few : xs.length + 1 < scanBound)
    (h : ∀ (h' : Heap) (tk : Nat), SetS P w h' s.heap.objs.size (seen xs) → (∀ b o, s.heap.get? b = some o → h'.get? b = some o) → Q (.ref s.heap.objs.size) { s with heap := h', toks := tk }) :
    wpAny (model P w) A (call (.type "set") [.ref l]) Q E s := by
  have size : items.size = xs.length := by
    have q := StrsAre.len_eq txt
    rw [Array.length_toList] at q
    exact q
  obtain ⟨c, tl, hmro⟩ := F.called_set.mro
  have g1 := F.called_set.made
  have g2 := F.called_set.sub
  have g3 := F.called_set.notType
  have g4 := F.called_set.canCreate
  have g5 := F.typeCall_set_1 (.ref l)
  refine wpAny_call (codeAny_of_tree (show wpAny _ _ (callAny (.type "set") _) _ _ _ from wpAny_pure ⟨Code.quiet_builtin _ (by decide +kernel), codeAny_builtin F.entry_type_call ?_⟩))
  rw [Around.under_plain (weight_type_call_type "set" [.ref l] []) rfl]
  repeat (any_goals (first | assumption | wp_step))
  refine codeAny_mono (code_set_new_1 (.ref l) (E := E) (Q₁ := fun obj s₁ => ∃ led : Bool, obj = .ref s.heap.objs.size ∧ s₁ = { s with heap := s.heap.push (bareSet led) }) fun led => ⟨led, rfl, rfl⟩) fun r s₁ hr => ?_
  rcases r with e | fl
  · exact hr
  cases fl with
  | ret obj =>
    obtain ⟨led, rfl, rfl⟩ := hr
    have at0 : (s.heap.push (bareSet led)).get? s.heap.objs.size = some (bareSet led) := Heap.get?_push_size _ rfl
    have ty0 : Shared.TypeIs { s with heap := s.heap.push (bareSet led) } (.ref s.heap.objs.size) "set" := ⟨_, at0, rfl⟩
    have g6 := F.called_set.init.lookup
    have g7 := F.called_set.init.bind (.ref s.heap.objs.size)
    repeat (any_goals (first | assumption | wp_step))
    refine codeAny_mono (codeAny_call_builtin (R := wants (fun r s₂ => r = .none ∧ ∃ h' tk, s₂ = { s with heap := h', toks := tk } ∧ SetS P w h' s.heap.objs.size (seen xs) ∧ (∀ b o, s.heap.get? b = some o → h'.get? b = some o)) E)
      F.called_set.init.plain F.entry_set_init (check_set_init_1 ty0 ?_)) fun r₂ s₂ hr₂ => ?_
    · obtain ⟨⟨ocls, odict, odata, oslots⟩, ho, hc, nl, hd⟩ := tup
      simp only at hc hd
      subst hc hd
      have ho1 : (s.heap.push (bareSet led)).get? l = some { cls := .type "tuple", dict := odict, data := .seq items nl, slots := oslots } := Heap.get?_push_of_some _ ho
      have g8 := F.sub_tuple_set
      have g9 := F.sub_tuple_frozenset
      have g10 : (Value.type "tuple" == Value.type "dict") = false := by decide
      have tup1 : (s.heap.push (bareSet led)).IsTuple l items := ⟨_, ho1, rfl, nl, rfl⟩
      unfold Builtin.«set.__init__» noKeywords Builtin.Frozenset.updateFrom
      generalize hPI : pyIter = PI
      wp_walk
      subst hPI
      refine wpAny_pyIter_tuple tup1 (wpAny_bind (wpAny_runValue ?_))
      have lt0 : l < s.heap.objs.size := Heap.lt_size ho
      have sz1 : (s.heap.push (bareSet led)).objs.size = s.heap.objs.size + 1 := Heap.size_push ..
      have calm3 : A.in1.in1.in1.handled = none := by simp [calm]
      have ne1 : l ≠ (s.heap.push (bareSet led)).objs.size := by
        rw [sz1]
        exact Nat.ne_of_lt (Nat.lt_succ_of_lt lt0)
      have apart : s.heap.objs.size ∉ [(s.heap.push (bareSet led)).objs.size, l] := fun z => by
        rcases List.mem_cons.mp z with z | z
        · rw [sz1] at z
          exact absurd z (Nat.ne_of_lt (Nat.lt_succ_self _))
        · exact absurd (List.mem_singleton.mp z) (Nat.ne_of_gt lt0)
      refine takes_texts ((Walks.tuple calm3 _ l ne1 items).toS) s.heap.objs.size apart xs size few (fun i v hv => ?_) items.size 0 _ (by omega) ⟨⟨_, Heap.get?_push_size _ rfl, rfl, rfl⟩, (tup1.push _)⟩ ?start fun s' mv held => ?_
      case start =>
        have at1 : ((s.heap.push (bareSet led)).push { cls := .type "tuple_iterator", data := .fields #[.ref l, .int 0 0] }).get? s.heap.objs.size = some (bareSet led) := Heap.get?_push_of_some _ at0
        exact SetOf_congr ((setObjOf_fresh (knd := PySem.strKind P w) led).setOf at1 (by unfold scanBound; omega)) (fun _ => rfl) rfl
      · have hi : i < xs.length := by
          rw [← size]
          exact (Array.getElem?_eq_some_iff.mp hv).1
        obtain ⟨t, e⟩ := SS.strs_at txt i v (by rw [Array.getElem?_toList]; exact hv)
        refine ⟨xs[i], t, List.getElem?_eq_getElem hi, ?_⟩
        rw [e, List.getD_eq_getElem?_getD, List.getElem?_eq_getElem hi]
        rfl
      · obtain ⟨h', gn, dr, tk, os'⟩ := s'
        have eg : gn = s.gens := mv.gens
        have ed : dr = s.drawn := mv.drawn
        have eo : os' = s.os := mv.os
        subst eg ed eo
        refine wpAny_pure ?_
        show wpAny _ _ (ret Value.none) _ _ _
        refine wpAny_pure ⟨rfl, h', tk, rfl, held, fun b o e => ?_⟩
        have lt1 : b < s.heap.objs.size := Heap.lt_size e
        refine mv.heap b o (fun z => ?_) (Heap.get?_push_of_some _ (Heap.get?_push_of_some _ e))
        rcases List.mem_cons.mp z with z | z
        · exact absurd z (Nat.ne_of_lt lt1)
        · rw [List.mem_singleton.mp z, sz1] at lt1
          exact absurd (Nat.lt_trans lt1 (Nat.lt_succ_self _)) (by
            intro q
            have := Nat.lt_of_lt_of_le lt1 (Nat.le_refl _)
            omega)
    · rcases r₂ with e | fl₂
      · exact hr₂
      cases fl₂ with
      | ret r =>
        obtain ⟨rfl, h', tk, rfl, held, kept⟩ := hr₂
        repeat (any_goals (first | assumption | wp_step))
        exact h _ _ held kept
      | _ => exact hr₂.elim
  | _ => exact hr.elim
end
section
variable {X : Cx}
theorem texts_of : ∀ {xs : List Str} {us : List Value}, Vals (xs.map V.str) us → StrsAre us xs
  | [], _, .nil => .nil
  | x :: xs, _, .cons r t => by
    obtain ⟨k, rfl⟩ := r
    exact .cons x k (texts_of t)
/-- len(set(t)), t a tuple of texts -/
def tManyS (K : PySem.W.Frag) (ta : TE) : TE := fun σ H Q => ta σ H fun x H1 => ∃ (l : Addr) (xs : List Str), x = .ref l ∧ SqT K H1 l (xs.map V.str) ∧ xs.length ≤ 4000 ∧ Q (.int ((seen xs).length : Nat)) H1
theorem pe_manyS {a : Expr} {ta : TE} {p p2 q pos : Pos} (hg : Gl X "len") (hm : X.mg "len" = none) (hg2 : Gl X "set") (hm2 : X.mg "set" = none) (ha : PE X a ta) (hc : X.calm = true := by rfl)
    (na : starEach [a] X.env = (false, eval a X.env) :: starEach [] X.env := by rfl) : PE X (.Call (.Name "len" p) [.Call (.Name "set" p2) [a] [] q] [] pos) (tManyS X.K ta) := by
  refine ⟨fun pins s σ H Q I h => Call_ (ld_blt I hg hm boot_len (callWith_builtin1 (args_cons (Call_ (ld_blt I hg2 hm2 boot_set ?_)) rfl) rfl rfl))⟩
  refine callWith_type1 (args_cons (thn (ha.run pins s σ H _ I h) fun v s1 ⟨x, H1, I1, r1, q1⟩ => args_nil ?_) na) na rfl
  obtain ⟨l, xs, rfl, hq, hl, q1⟩ := q1
  cases r1
  obtain ⟨its, r, pl, hz⟩ := I1.tuple hq
  have few := seen_le xs
  refine set_of_texts (I1.ok.hd hc) pl (by simpa using texts_of r) (by unfold scanBound; omega) fun h' tk held kept => args_nil ?_
  obtain ⟨o, es, ep, t, ho, hex, hd, _, _, _, hf, hn⟩ := held
  exact call_len_set ho hex hd hf (by rw [hn]; omega) ⟨.int (seen xs).length, H1, (I1.kept kept).tok _, ⟨_, by rw [hn]⟩, q1⟩
end
end Nb

set_option Elab.async false
set_option maxRecDepth 100000
set_option maxHeartbeats 4000000
/-! A caught error that is asked behind its handler: it is told in the heap from then on. -/
namespace Nb
open PySem PySem.Spec PyProof.Rows L2
/-- an error of the class cls, its dict at d, that flies no more -/
def Ke (cls : Value) (d : Option Addr) (a : Addr) : HO := .ext fun h => ∃ (oe : Obj) (vs : Array Value), h.get? a = some oe ∧ Zc cls d oe ∧ oe.data = .fields vs
theorem ke_ok {P : Program} {w : World} {H : Hp} {h : Heap} {a : Addr} {cls : Value} {d : Option Addr} {oe : Obj} {vs : Array Value} (e : h.get? a = some oe) (z : Zc cls d oe) (f : oe.data = .fields vs) : ObjOk P w H h a (Ke cls d a) :=
  ⟨⟨oe, vs, e, z, f⟩, ⟨oe, e⟩, fun _ _ ⟨o, ws, e1, z1, f1⟩ k => ⟨o, ws, k o e1, z1, f1⟩⟩
theorem ke_at {P : Program} {w : World} {H : Hp} {h : Heap} {a : Addr} {cls : Value} {d : Option Addr} (hok : HOk P w H h) (e : H a = some (Ke cls d a)) : ∃ (oe : Obj) (vs : Array Value), h.get? a = some oe ∧ Zc cls d oe ∧ oe.data = .fields vs := (show ObjOk P w H h a (Ke cls d a) from hok a _ e).1
section
variable {X : Cx} {pins : List (Addr × Obj)} {σ : L2.St} {H : Hp} {s : Shared} {a : Addr}
/-- what is new since the def began, and stands nowhere, may be told -/
theorem inv_tell {o : HO} (I : Inv X pins σ H s) (na : H a = none) (n0 : X.s_0.heap.get? a = none) (nL : a ≠ X.env.locals) (nC : ∀ v, ¬ s.heap.IsCell a v) (nP : ∀ p ∈ X.pn ++ pins, p.1 ≠ a) (ho : ObjOk X.prog X.w (upd H a o) s.heap a o) :
    Inv X pins σ (upd H a o) s := by
  have ne : ∀ {b : Addr} {u : HO}, H b = some u → b ≠ a := fun e => ne_of_none e na
  refine ⟨I.ok, I.os, I.bare, ?_, I.loc, I.cell, ?_, ?_, ?_, ?_, I.len⟩
  · refine ⟨I.base.keep, I.base.slot, fun b ob e n hx => ?_, I.base.there, fun b xs e => ?_, fun b ob u e => ?_, fun b ps e => ?_⟩
    · have nb : b ≠ a := fun z => by
        rw [z, n0] at e
        cases e
      rw [upd_ne nb]
      exact I.base.free b ob e n hx
    · have t := I.base.tups b xs e
      rw [upd_ne (ne t)]
      exact t
    · have t := I.base.frzs b ob u e
      rw [upd_ne (ne t)]
      exact t
    · obtain ⟨m, t⟩ := I.base.tbls b ps e
      exact ⟨m, by rw [upd_ne (ne t)]; exact t⟩
  · rw [upd_ne (Ne.symm nL)]
    exact I.free
  · intro y c hc
    have nc : c ≠ a := fun z => by
      obtain ⟨v, hv⟩ := I.cell y c hc
      exact nC v (z ▸ hv)
    rw [upd_ne nc]
    exact I.freeC y c hc
  · intro p hp
    obtain ⟨p1, p2, p3⟩ := I.pin p hp
    exact ⟨p1, by rw [upd_ne (nP p hp)]; exact p2, p3⟩
  · intro b u e
    by_cases hb : b = a
    · subst hb
      rw [upd_same] at e
      cases e
      exact ho
    · rw [upd_ne hb] at e
      exact (I.hok b u e).stay (fun c v _ q => q) (fun c q => by rw [upd_ne (ne q)]; exact q) fun c xs q => by rw [upd_ne (ne q)]; exact q
end
/-- what such a clause wishes of an error of the body: slot i is the name of the clause -/
def wKept (K : PySem.W.Frag) (c : Value) (i : Nat) (ts : Addr → Value → Option Addr → TS) (D : Ends) : WX := fun cls d σ H =>
  PySem.W.exmOne K cls c = some true ∧ ∀ a, H a = none → ts a cls d { nx := fun σ' H' => D.nx (σ'.set i none) (upd H' a (Ke cls d a)), rt := fun v H' => D.rt v (upd H' a (Ke cls d a)), bk := fun σ' H' => D.bk (σ'.set i none) (upd H' a (Ke cls d a)), ct := fun σ' H' => D.ct (σ'.set i none) (upd H' a (Ke cls d a)) } (σ.set i (some (.ref a))) H
section
variable {X : Cx} {nm : Str} {c : Value} {i : Nat} {x : Str} {body su : List Stmt} {b1 : Stmt} {px p1 p2 : Pos} {tb : WX → TS} {ts : Addr → Value → Option Addr → TS}
/-- try: .. except C as n: .., where the body lets out nothing but errors of C: what is caught is told in the heap behind the clause -/
theorem ps_try_kept (st : X.stack = X.env :: X.outer) (fl : X.env.frame = some X.env.locals) (x0 : X.ex = []) (nd : X.N.Nodup) (at_ : X.N[i]? = some nm) (lc : X.env.kindOf nm = some .local) (cn : Names X x c)
    (tbd : ∀ (W : WX) (pn : List (Addr × Obj)) (xe : Value → Shared → Prop), Takes (X.tr pn xe) W → PassesOwn (model X.prog X.w) X.A X.env xe → PSs (X.tr pn xe) body (tb W))
    (tsu : ∀ (a : Addr) (oe : Obj) (cls : Value) (d : Option Addr) (pn : List (Addr × Obj)), Zc cls d oe → (∃ vs, oe.data = .fields vs) → PSs (X.suite a ((a, oe) :: pn)) (b1 :: su) (ts a cls d)) :
    PS X (.Try body [.ExceptHandler (some (.Name x px)) (some nm) (b1 :: su) p1] [] [] p2) (fun D σ H => tb (wKept X.K c i ts D) D σ H) := by
  refine ⟨fun pins s σ H D I h => wpAny_Try_except ?_⟩
  have ok := I.ok
  have fr : X.A.frames = some (X.env :: X.outer) := by rw [ok.frames, st]
  refine wpAny_mono ((tbd (wKept X.K c i ts D) (X.pn ++ pins) _ ?take PassesOwn.looking).run [] s σ H D (I.toTry _) h) (fun f s1 r => ?done) (fun e s1 r => r)
  case done =>
    cases f with
    | next =>
      obtain ⟨σ1, H1, J, r⟩ := r
      exact wpAny_execs_nil ⟨σ1, H1, J.ofTry ok, r⟩
    | ret u =>
      obtain ⟨v, σ1, H1, J, e, r⟩ := r
      exact ⟨v, σ1, H1, J.ofTry ok, e, r⟩
    | brk =>
      obtain ⟨σ1, H1, J, r⟩ := r
      exact ⟨σ1, H1, J.ofTry ok, r⟩
    | cont =>
      obtain ⟨σ1, H1, J, r⟩ := r
      exact ⟨σ1, H1, J.ofTry ok, r⟩
  case take =>
    rintro u s1 ⟨a, B, s0, ps, σ1, H1, cls, d, rfl, J0, inB, up, sky, na, os, ag, mt, yes⟩
    have J := J0.ofTry (pn' := ps) ok
    have sky1 : Sky B (X.env :: X.outer) a (Zc cls d) X.env.locals s1.heap := st ▸ sky
    have notB : B.get? a = none := by
      rcases sky1 with k | k | k
      · exact k.2.1
      · exact k.2.1
      · exact k.2.1
    refine Sky.land Zc.steady fr fl sky1 fun h2 f2 up2 => ?_
    have J2 : Inv X pins σ1 H1 { s1 with heap := h2 } := J.landed inB f2.1 (up.trans up2) os ag
    obtain ⟨o2, w2, e2, z2, d2⟩ := f2.there
    have out : a ∉ frs (X.env :: X.outer) := fun hm => by
      obtain ⟨_, o, eo, no⟩ := f2.2.2.1.mem hm
      rw [e2] at eo
      cases eo
      exact no _ d2
    have nL : a ≠ X.env.locals := fun z => out (List.mem_filterMap.mpr ⟨X.env, List.mem_cons_self, by rw [fl, z]⟩)
    have nF : a ∉ X.fs := fun hm => by
      obtain ⟨e, he, q⟩ := List.mem_filterMap.mp hm
      exact out (List.mem_filterMap.mpr ⟨e, List.mem_cons_of_mem _ he, q⟩)
    have gone : ∀ {b : Addr} {o : Obj}, s0.heap.get? b = some o → b ∉ frs X.stack → b ≠ a := fun e n z => by
      have q := inB _ _ e n
      rw [z, notB] at q
      cases q
    have outS : a ∉ frs X.stack := st ▸ out
    have new0 : X.s_0.heap.get? a = none := by
      cases e : X.s_0.heap.get? a with
      | none => rfl
      | some o =>
        obtain ⟨o', e'⟩ := J.base.there a o e (by rw [x0]; exact fun z => nomatch z)
        exact absurd rfl (gone e' outS)
    have nP : ∀ p ∈ X.pn ++ pins, p.1 ≠ a := fun p hp => by
      obtain ⟨g1, _, g3, g4, _⟩ := J.pin p hp
      refine gone g1 fun hm => ?_
      rw [st] at hm
      obtain ⟨e, he, q⟩ := List.mem_filterMap.mp hm
      rcases List.mem_cons.mp he with rfl | he
      · rw [fl] at q
        exact g3 (Option.some.inj q).symm
      · exact g4 (List.mem_filterMap.mpr ⟨e, he, q⟩)
    have S2 := J2.suite e2 d2 na nL nF
    have isC : PySem.W.Looks (model X.prog X.w) h2 (typeOf (.ref a)) cls := fun A Q E s k q => wpAny_typeOf_ref (k _ _ e2) (by rw [z2.1]; exact q)
    have asks := PySem.W.exm_one (M := model X.prog X.w) J2.kIn isC mt
    have named : ∀ {Q : Value → Shared → Prop} {E : Value → Shared → Prop}, Q c { s1 with heap := h2 } → wpAny (model X.prog X.w) (X.A.mark (some (.ref a))) (eval (.Name x px) X.env) Q E { s1 with heap := h2 } := fun q => by
      rcases cn with ⟨g1, g2, g3 | ⟨g3, g4, g5⟩⟩
      · exact ld_glob (X := X.suite a ((a, o2) :: (X.pn ++ pins))) S2 g1 g3 q g2
      · exact ld_blt (X := X.suite a ((a, o2) :: (X.pn ++ pins))) S2 g1 g3 g4 q g5 g2
    refine wpAny_handleBy_cons (codeAny_handlers_test (named (asks.here ?_))) fun q => nomatch q
    refine codeAny_handlers_suite_as (HandSPX.lands_againZ f2 fun h3 f3 up3 => ?_)
    have J3 : Inv X pins σ1 H1 { s1 with heap := h3 } := J.landed inB f3.1 ((up.trans up2).trans up3) os ag
    obtain ⟨o3, w3, e3, z3, d3⟩ := f3.there
    refine store_ok (X := X.suite a ((a, o3) :: (X.pn ++ pins))) (v := .ref a) (J3.suite e3 d3 na nL nF) nd at_ (.inl lc) rfl (fun s4 S4 => ?_) (.inr lc)
    refine wpAny_mono ((tsu a o3 cls d (X.pn ++ pins) z3 ⟨_, d3⟩).run [] s4 _ H1 _ S4 (yes a na)) (fun f s5 r => ?_) (fun _ _ z => False.elim z)
    have close : ∀ {σ5 : L2.St} {H5 : Hp} {Q : Shared → Prop}, Inv (X.suite a ((a, o3) :: (X.pn ++ pins))) [] σ5 H5 s5 → (∀ s6, Inv X pins (σ5.set i none) (upd H5 a (Ke cls d a)) s6 → Q s6) →
        wpAny (model X.prog X.w) X.A (do bindName X.env nm .none; unbindBehindTheSuite X.env nm p1) (fun _ s6 => Q s6) X.xe s5 := fun {σ5 H5 Q} S5 q => by
      obtain ⟨g1, g2, _⟩ := S5.pin (a, o3) (List.mem_append_left _ List.mem_cons_self)
      have g1 : s5.heap.get? a = some o3 := g1
      refine gone_ok (inv_tell (S5.unsuite ok) g2 new0 nL (fun v hv => ?_) nP (ke_ok g1 z3 d3)) nd at_ lc q
      obtain ⟨o, ho, hd⟩ := hv
      rw [g1] at ho
      cases ho
      rw [d3] at hd
      cases hd
    cases f with
    | next =>
      obtain ⟨σ5, H5, S5, r⟩ := r
      exact close S5 fun s6 J6 => ⟨_, _, J6, r⟩
    | ret u =>
      obtain ⟨v, σ5, H5, S5, e, r⟩ := r
      exact close S5 fun s6 J6 => ⟨_, _, _, J6, e, r⟩
    | brk =>
      obtain ⟨σ5, H5, S5, r⟩ := r
      exact close S5 fun s6 J6 => ⟨_, _, J6, r⟩
    | cont =>
      obtain ⟨σ5, H5, S5, r⟩ := r
      exact close S5 fun s6 J6 => ⟨_, _, J6, r⟩
end
/-- an error that is told, with its fields -/
def KeptAt (H : Hp) (a D dd : Addr) (fs : List (Str × V)) : Prop := H a = some (Ke (.ref D) (some dd) a) ∧ H dd = some (.xd fs)
theorem kept_same {H H' : Hp} {a D dd : Addr} {fs : List (Str × V)} (s : Same H H') (h : KeptAt H a D dd fs) : KeptAt H' a D dd fs := ⟨s _ _ h.1, s _ _ h.2⟩
theorem kept_inst {P : Program} {w : World} {H : Hp} {h : Heap} {a D dd : Addr} {fs : List (Str × V)} (hok : HOk P w H h) (k : KeptAt H a D dd fs) :
    ∃ (oe od : Obj) (mA : Str → Option Value), PySem.W.InstAt h a oe D (some od) ∧ h.Ns1 dd mA ∧ (∀ f, RelO (fs.lookup f) (mA f)) ∧ ∀ f, PySem.W.lookIn f od = some (mA f) := by
  obtain ⟨oe, vs, e1, z1, f1⟩ := ke_at hok k.1
  have x : ObjOk P w H h dd (.xd fs) := hok dd _ k.2
  obtain ⟨mA, hns, hr⟩ := x
  obtain ⟨od, ho, hl⟩ := lookIn_ns hns
  refine ⟨oe, od, mA, ⟨e1, z1.1, ?_, ?_⟩, hns, hr, fun f => ?_⟩
  · unfold PySem.W.notCls
    rw [f1] <;> rfl
  · rw [z1.2]
    exact ho
  · exact hl f
/-- e.f of such an error -/
def tKf (K : PySem.W.Frag) (f : Str) (te : TE) : TE := fun σ H Q => te σ H fun x H1 => ∃ (a D dd : Addr) (fs : List (Str × V)) (v : V), x = .ref a ∧ XfC K D ∧ PySem.W.findIn K (.ref D) f = some none ∧ KeptAt H1 a D dd fs ∧ fs.lookup f = some v ∧ Q v H1
theorem pe_kf {X : Cx} {e : Expr} {te : TE} {pos : Pos} {f : Str} (he : PE X e te) (hb : attributeBase e f X.env (eval e X.env) = eval e X.env := by rfl) : PE X (.Attribute e f pos) (tKf X.K f te) := by
  refine ⟨fun pins s σ H Q I h => attr_of hb (thn (he.run pins s σ H _ I h) fun u s1 k => ?_)⟩
  obtain ⟨x, H1, I1, rx, a, D, dd, fs, v, rfl, T, no, ka, l, q⟩ := k
  cases rx
  obtain ⟨oe, od, mA, J, hns, hr, hl⟩ := kept_inst I1.hok ka
  obtain ⟨u, hu, ru⟩ := RelO.some_of (v := v) (o := mA f) (by rw [← l]; exact hr f)
  exact HandSPX.exc_get I1.kIn J T.ga T.gg T.exC (PySem.W.findObj_own T.hdC no rfl (by rw [hl, hu])) (handed_of ru) ⟨v, H1, I1.tok _, ru, q⟩
/-- isinstance(e, c) of such an error -/
def rIsK (K : PySem.W.Frag) : List V → Hp → VK → Prop := fun xs H Q => ∃ (a D dd : Addr) (fs : List (Str × V)) (c : V) (cv : Value) (b : Bool), xs = [.ref a, c] ∧ ExcC K D ∧ KeptAt H a D dd fs ∧ (∀ u, RelV c u → u = cv) ∧ PySem.W.kitOne K (.ref D) cv = some b ∧ Q (.bl b) H
theorem call_isK {X : Cx} : CallR X (.builtin "isinstance") (rIsK X.K) := by
  intro pins s σ H xs us Q I r h
  obtain ⟨a, D, dd, fs, c, cv, b, rfl, C, ka, hcv, e, q⟩ := h
  obtain ⟨oe, od, mA, J, _⟩ := kept_inst I.hok ka
  cases r with
  | cons rx rr => cases rr with
    | cons rt rr =>
      cases rr
      cases rx
      cases hcv _ rt
      obtain ⟨cd, hc, _⟩ := PySem.W.any_some C.hd
      exact PySem.W.kia_one (PySem.W.kitx_exc (by rw [hc]; rfl) C.hg C.hk C.hs C.ha C.hn C.ht C.hm) I.kIn J e (fun z => nomatch z) fun tk => ⟨.bl b, H, I.kept (t' := tk) fun _ _ z => z, rfl, q⟩
end Nb

set_option Elab.async false
set_option maxRecDepth 100000
set_option maxHeartbeats 4000000
/-! An own error that is made and held as a value, not raised: told in the heap at once. -/
namespace Nb
open PySem PySem.Spec PyProof.Rows L2
/-- what the making of an error wishes, where the error is a value -/
def tKept (t : L2.St → Hp → XK → Prop) : TE := fun σ H Q => t σ H fun cls d H' => ∀ a, H' a = none → Q (.ref a) (upd H' a (Ke cls d a))
theorem pe_kept {X : Cx} {e : Expr} {t : L2.St → Hp → XK → Prop} (x0 : X.ex = []) (st : X.stack = X.env :: X.outer) (fl : X.env.frame = some X.env.locals) (he : PMk X e t) : PE X e (tKept t) := by
  refine ⟨fun pins s σ H Q I h => wpAny_mono (he pins s σ H _ I h) (fun u s1 r => ?_) fun _ _ z => z⟩
  obtain ⟨a, oe, vs, s0, H1, cls, d, rfl, J, k, na0, ea, zc, dv, _, na, os, ag, _, q⟩ := r
  have ok := J.ok
  have J1 : Inv X pins σ H1 s1 := by
    have J2 := J.call (ch := []) (h' := s1.heap) (g' := s1.gens) (t' := s1.toks) (d' := s1.drawn) (H' := H1)
      ⟨fun b o e _ _ _ => k b o e, fun b o e _ _ _ => ⟨o.slots, k b o e⟩, fun _ _ _ n _ => n, fun b o e _ => ⟨o, k b o e⟩, fun _ _ e => e, fun _ _ _ e => e, fun b ps e => ⟨#[], by rw [e]; simp⟩⟩ (J.hok.kept k) ag (fun _ z => nomatch z)
    obtain ⟨a1, a2, a3, a4, a5⟩ := s1
    cases (show a5 = s0.os from os)
    exact J2
  have gone : ∀ {b : Addr} {o : Obj}, s0.heap.get? b = some o → b ≠ a := fun e z => by
    rw [z, na0] at e
    cases e
  have n0 : X.s_0.heap.get? a = none := by
    cases e : X.s_0.heap.get? a with
    | none => rfl
    | some o =>
      obtain ⟨o', e'⟩ := J.base.there a o e (by rw [x0]; exact fun z => nomatch z)
      exact absurd rfl (gone e')
  have nL : a ≠ X.env.locals := fun z => by
    obtain ⟨m, hn, _⟩ := J.loc
    obtain ⟨o, _, _, e, _⟩ := hn
    exact gone e z.symm
  refine ⟨.ref a, upd H1 a (Ke cls d a), inv_tell J1 na n0 nL (fun v hv => ?_) (fun p hp => gone (J.pin p hp).1) (ke_ok ea zc dv), rfl, q a na⟩
  obtain ⟨o, ho, hd⟩ := hv
  rw [ea] at ho
  cases ho
  rw [dv] at hd
  cases hd
end Nb

set_option Elab.async false
set_option maxRecDepth 100000
set_option maxHeartbeats 4000000
/-! Own errors over any of four built-in classes, whose __init__ stores its arguments under their names. -/
namespace Nb
open PySem PySem.Spec PyProof.Rows Builtin.ObjectAttr
open L2 hiding del del_ne del_same
/-- the built-in class below -/
structure Over (B nw ini : String) (bm : List Value) : Prop where
  fb : ExcBaseFacts B nw ini bm
  sf : StoreFacts B bm "object.__setattr__" "object"
theorem overV : Over "ValueError" "ValueError.__new__" "ValueError.__init__" [.type "ValueError", .type "Exception", .type "BaseException", .type "object"] := ⟨F.excBase_ValueError, F.store_ValueError⟩
theorem overA : Over "ArithmeticError" "ArithmeticError.__new__" "ArithmeticError.__init__" [.type "ArithmeticError", .type "Exception", .type "BaseException", .type "object"] := ⟨F.excBase_ArithmeticError, F.store_ArithmeticError⟩
theorem overL : Over "LookupError" "LookupError.__new__" "LookupError.__init__" [.type "LookupError", .type "Exception", .type "BaseException", .type "object"] := ⟨F.excBase_LookupError, F.store_LookupError⟩
theorem overR : Over "RuntimeError" "RuntimeError.__new__" "RuntimeError.__init__" [.type "RuntimeError", .type "Exception", .type "BaseException", .type "object"] := ⟨F.excBase_RuntimeError, F.store_RuntimeError⟩
/-- what the written part says of an own error class -/
structure ErrC (K : PySem.W.Frag) (C : Addr) : Prop where
  ov : ∃ B nw ini bm, Over B nw ini bm ∧ PySem.W.excInitIn K C bm nw = true ∧ PySem.W.excOver K C bm = true
  sa : PySem.W.findIn K (.ref C) "__setattr__" = some (some (.builtin "object.__setattr__"))
  tyC : PySem.W.typeIn K (.ref C) = some (.type "type")
  kC : PySem.W.keepIn K (.ref C) = true
  ex : ExcC K C
theorem taker_of {K : PySem.W.Frag} {C : Addr} {f : Str} (h : PySem.W.findIn K (.ref C) f = some none) : PySem.W.takerIn K C f = some none := by
  unfold PySem.W.takerIn
  rw [h]
  rfl
section
variable {X : Cx} {pins : List (Addr × Obj)} {σ : L2.St} {H : Hp} {s : Shared} {a C d : Addr} {f : Str} {y : V} {u : Value} {fs : List (Str × V)} {Q : Unit → Shared → Prop} {E : Value → Shared → Prop} {A : Around}
theorem put_first (T : ErrC X.K C) (I : Inv X pins σ H s) (e : H a = some (exo a C none)) (hno : PySem.W.findIn X.K (.ref C) f = some none) (ry : RelV y u)
    (h : ∀ d s', H d = none → d ≠ a → Inv X pins σ (upd (upd (upd H d (exd d [])) a (exo a C (some d))) d (exd d [(f, y)])) s' → Q () s') : wpAny (model X.prog X.w) A (setAttr (.ref a) f u) Q E s := by
  obtain ⟨t1, ho⟩ := exo_at I.hok e
  obtain ⟨B, nw, ini, bm, ov, q1, q2⟩ := T.ov
  obtain ⟨cd, hc, hd⟩ := PySem.W.any_some T.ex.hd
  obtain ⟨hp, g, dr, t, os⟩ := s
  have la : a < hp.objs.size := Heap.lt_size ho
  refine PySem.W.set_plain (od := none) I.kIn ⟨ho, rfl, rfl, trivial⟩ T.sa ?_
  refine PySem.W.osa_openX (od := none) ov.sf I.kIn ⟨ho, rfl, rfl, trivial⟩ q2 (taker_of hno) fun b => ?_
  refine wpAny_bind (wpAny_pure (wpAny_bind (PySem.W.instanceDict_exc (c2 := .none) ho (PySem.W.looks_clsIn I.kIn hc) hd ?_)))
  have sz : hp.objs.size ≠ a := Nat.ne_of_gt la
  have e1 : (hp.push (PySem.W.dictOf [] 0)).get? hp.objs.size = some (PySem.W.dictOf [] 0) := Heap.get?_push_at rfl rfl
  have n1 : (hp.push (PySem.W.dictOf [] 0)).Ns hp.objs.size (fun _ => none) := ⟨_, #[], _, e1, rfl, fun e he => absurd he (by simp), fun _ => rfl⟩
  have I1 := I.laid (t' := t) (a := hp.objs.size) (o := exd hp.objs.size []) (h' := hp.push (PySem.W.dictOf [] 0)) (fun b o q => Heap.get?_push_of_some _ q) (Nat.le_refl _) (exd_ok (Heap.Ns1.of_empty n1) fun _ => True.intro)
  have h1 : (hp.push (PySem.W.dictOf [] 0)).get? a = some ({ cls := .ref C, data := .fields #[.ref t1, .none, .none, .none, .bool false, .none] } : Obj) := Heap.get?_push_of_some _ ho
  have I2 := I1.write (t' := t) (x := a) (e := a) (o := exo a C (some hp.objs.size)) (h' := (hp.push (PySem.W.dictOf [] 0)).update a fun o => { o with dict := some hp.objs.size }) (by rw [upd_ne (Ne.symm sz), e]; exact True.intro) (.inl rfl)
    (fun b o hb q => (Heap.get?_update_ne _ _ _ _ hb).trans q) ⟨_, Heap.get?_update_self _ h1 rfl⟩ (exo_ok (Heap.get?_update_self _ h1 rfl))
  have n2 : ((hp.push (PySem.W.dictOf [] 0)).update a fun o => { o with dict := some hp.objs.size }).Ns hp.objs.size (fun _ => none) :=
    ⟨_, #[], _, (Heap.get?_update_ne _ _ _ _ sz).trans e1, rfl, fun e he => absurd he (by simp), fun _ => rfl⟩
  show wpAny _ _ (storeInDict hp.objs.size (.str f _) f u) _ _ _
  refine PySem.HandSPX.store_in_new n2 fun h' tk' hn' hs => ?_
  have at2 : upd (upd H hp.objs.size (exd hp.objs.size [])) a (exo a C (some hp.objs.size)) hp.objs.size = some (exd hp.objs.size []) := by rw [upd_ne sz, upd_same]
  have hd2 : ∃ o, h'.get? hp.objs.size = some o := by
    obtain ⟨o, _, _, e', _⟩ := hn'
    exact ⟨o, e'⟩
  exact h _ _ (I.hok.fresh (Nat.le_refl _)) sz (I2.write (t' := tk') (x := hp.objs.size) (e := hp.objs.size) (o := exd hp.objs.size [(f, y)]) (by rw [at2]; exact True.intro) (.inl rfl) (fun b o hb q => (hs.2 b hb).trans q) hd2
    (exd_ok hn' (relO_put (fs := []) ry fun _ => True.intro)))
theorem put_more (T : ErrC X.K C) (I : Inv X pins σ H s) (e : H a = some (exo a C (some d))) (ed : H d = some (exd d fs)) (hl : fs.length ≤ 900) (hno : PySem.W.findIn X.K (.ref C) f = some none) (ry : RelV y u)
    (h : ∀ s', Inv X pins σ (upd H d (exd d ((f, y) :: fs))) s' → Q () s') : wpAny (model X.prog X.w) A (setAttr (.ref a) f u) Q E s := by
  obtain ⟨t1, ho⟩ := exo_at I.hok e
  obtain ⟨mA, hns, rel⟩ := exd_at I.hok ed
  have hw := within_of rel
  obtain ⟨B, nw, ini, bm, ov, q1, q2⟩ := T.ov
  obtain ⟨cd, hc, hd⟩ := PySem.W.any_some T.ex.hd
  obtain ⟨hp, g, dr, t, os⟩ := s
  obtain ⟨oD, _, _, hoD, _, _⟩ := hns.count hw
  refine PySem.W.set_plain (od := some oD) I.kIn ⟨ho, rfl, rfl, hoD⟩ T.sa ?_
  refine PySem.W.osa_openX (od := some oD) ov.sf I.kIn ⟨ho, rfl, rfl, hoD⟩ q2 (taker_of hno) fun b => ?_
  refine wpAny_bind (wpAny_pure (wpAny_bind (wpAny_bind (wpAny_loadPart ho (wpAny_bind ((PySem.W.looks_clsIn I.kIn hc).at ?_))))))
  rw [hd]
  refine wpAny_pure (a := some d) ?_
  refine PySem.OEX.store_in_old hns hw (by rw [List.length_map]; omega) fun h' tk' hn' hs => ?_
  have hd2 : ∃ o, h'.get? d = some o := by
    obtain ⟨o, _, _, e', _⟩ := hn'
    exact ⟨o, e'⟩
  exact h _ (I.write (t' := tk') (x := d) (e := d) (o := exd d ((f, y) :: fs)) (by rw [ed]; exact True.intro) (.inl rfl) (fun b o hb q => (hs.2 b hb).trans q) hd2 (exd_ok hn' (relO_put ry rel)))
end
/-- H is H0 and, at a, an error of C that is being made, with the fields fs -/
def Mkg (H0 H : Hp) (a C : Addr) (fs : List (Str × V)) : Prop := H0 a = none ∧ ((fs = [] ∧ H = upd H0 a (exo a C none)) ∨ ∃ d, H0 d = none ∧ d ≠ a ∧ H = upd (upd H0 d (exd d fs)) a (exo a C (some d)))
def tPut (K : PySem.W.Frag) (f : Str) (to te : TE) : TS := fun D σ H => te σ H fun y H1 => to σ H1 fun x H2 => ∃ (a C : Addr) (H0 : Hp) (fs : List (Str × V)), x = .ref a ∧ ErrC K C ∧ PySem.W.findIn K (.ref C) f = some none ∧ fs.length ≤ 900 ∧ Mkg H0 H2 a C fs ∧ ∀ H3, Mkg H0 H3 a C ((f, y) :: fs) → D.nx σ H3
theorem ps_put {X : Cx} {o e : Expr} {to te : TE} {f : Str} {p' pos : Pos} (ho : PE X o to) (he : PE X e te) (hs : swapsWith e (some (.Attribute o f p')) pos.line X.env = pure false := by rfl) : PS X (.Assign [.Attribute o f p'] e pos) (tPut X.K f to te) := by
  refine ⟨fun pins s σ H D I h => ?_⟩
  refine plainObj_wpAny_Assign_Attribute (thn (he.run pins s σ H _ I h) fun v s1 ⟨y, H1, I1, r1, q1⟩ => thn (ho.run pins s1 σ H1 _ I1 q1) fun u s2 ⟨x, H2, I2, r2, a, C, H0, fs, ex, T, hno, hl, mk, q⟩ => ?_) hs
  subst ex
  cases (show u = Value.ref a from r2)
  obtain ⟨na, ⟨rfl, rfl⟩ | ⟨d, nd, ne, rfl⟩⟩ := mk
  · refine put_first T I2 upd_same hno r1 fun d s' n ne J => ⟨σ, _, J, q _ ⟨na, .inr ⟨d, ?_, ne, ?_⟩⟩⟩
    · rw [upd_ne ne] at n
      exact n
    · funext b
      by_cases h1 : b = d
      · subst h1
        rw [upd_same, upd_ne ne, upd_same]
      · rw [upd_ne h1]
        by_cases h2 : b = a
        · subst h2
          rw [upd_same, upd_same]
        · rw [upd_ne h2, upd_ne h1, upd_ne h2, upd_ne h2, upd_ne h1]
  · refine put_more T I2 upd_same (by rw [upd_ne ne, upd_same]) hl hno r1 fun s' J => ⟨σ, _, J, q _ ⟨na, .inr ⟨d, nd, ne, ?_⟩⟩⟩
    funext b
    by_cases h1 : b = d
    · subst h1
      rw [upd_same, upd_ne ne, upd_same]
    · rw [upd_ne h1]
      by_cases h2 : b = a
      · subst h2
        rw [upd_same, upd_same]
      · rw [upd_ne h2, upd_ne h2, upd_ne h1, upd_ne h1]
/-- __init__ of such a class: the fields are its parameters behind self -/
def spMk (K : PySem.W.Frag) (fs : List Str) : Sp := fun vs H Q _ => ∃ (a C : Addr) (H0 : Hp) (ws : List V), vs = .ref a :: ws ∧ ws.length = fs.length ∧ ErrC K C ∧ (∀ f ∈ fs, PySem.W.findIn K (.ref C) f = some none) ∧ Mkg H0 H a C [] ∧
  ∀ H', Mkg H0 H' a C (fs.zip ws).reverse → Q .non H'
/-- an error of C(e, ..), made: a dict with its fields is left -/
def tMkE0 (C : Addr) (fs : List Str) (ta : TA) : L2.St → Hp → XK → Prop := fun σ H Q => ∃ R : List V → Hp → Prop, ta σ H R ∧ ∀ vs H1, R vs H1 → vs.length = fs.length ∧ ∀ d, H1 d = none → Q (.ref C) (some d) (upd H1 d (.xd (fs.zip vs).reverse))
def tMkE (C : Addr) (fs : List Str) (ta : TA) : L2.St → Hp → XK → Prop := fun σ H Q => ta σ H fun vs H1 => vs.length = fs.length ∧ ∀ d, H1 d = none → Q (.ref C) (some d) (upd H1 d (.xd (fs.zip vs).reverse))
/-- all that is known of an own error class -/
structure Er (P : Program) (w : World) (K : PySem.W.Frag) (mg : Str → Option Value) (base : Heap) (x : Str) (C : Addr) (fs : List Str) : Prop where
  T : ErrC K C
  g : mg x = some (.ref C)
  no : ∀ f ∈ fs, PySem.W.findIn K (.ref C) f = some none
  len : fs.length ≤ 900
  pos : 1 ≤ fs.length
  ini : ∃ (fI : Addr) (fd : FuncData), PySem.W.findIn K (.ref C) "__init__" = some (some (.ref fI)) ∧ PySem.W.typeIn K (.ref fI) = some (.type "function") ∧ Binds K fd ("self" :: fs) [] ∧ FnOk P w K mg base CX0 1 fI fd ("self" :: fs) (spMk K fs)
section
variable {X : Cx} {x : Str} {C : Addr} {fs : List Str} {e : Expr} {es : List Expr} {ta : TA} {p pos : Pos}
theorem pmk_err0 (R : Er X.prog X.w X.K X.mg X.base x C fs) (hr : Room 2 X.A) (hg : Gl X x) (ha : PA X (e :: es) ta)
    (hdb : (x == ("__debug__" : Str)) = false := by decide) (he : starEach (e :: es) X.env = (false, eval e X.env) :: starEach es X.env := by rfl) (hpl : (backTo pos (starEach es X.env)).any (·.1) = false := by rfl) :
    PMk X (.Call (.Name x p) (e :: es) [] pos) (tMkE0 C fs ta) := by
  intro pins s σ H Q I ⟨R0, h, imp⟩
  obtain ⟨B, nw, ini, bm, ov, q1, _⟩ := R.T.ov
  obtain ⟨fI, fd, iC, tI, hb, F1⟩ := R.ini
  refine wpAny_Call_Name_kw (ld_glob I hg R.g ?_ hdb)
  refine PySem.W.callWith_K (h₀ := X.base) I.ok.mod.kin R.T.kC (thn (ha.run pos pins s σ H _ I h) fun us s1 ⟨vs, H1, I1, r1, q0⟩ => ⟨I1.kIn, ?_⟩) he hpl
  show wpAny _ _ (call (.ref C) us) _ _ _
  obtain ⟨hz, qf⟩ := imp vs H1 q0
  obtain ⟨hp, g, dr, tk, os⟩ := s1
  obtain ⟨nm, N, qn, bs, bm', hdct, sn, sub, ab, col, dd, k0, k1, k2, k3, k5, hC, hT⟩ := PySem.W.excInit_of I1.kIn q1
  have up1 : hp.objs.size ≤ hp.objs.size + 1 := Nat.le_succ _
  have hn : H1 (hp.objs.size + 1) = none := I1.hok.fresh up1
  have kk : ∀ b o, hp.get? b = some o → ((hp.push (PySem.W.kdv_tup us)).push (PySem.HandSPX.excO C hp.objs.size)).get? b = some o := fun b o e => Heap.get?_push_of_some _ (Heap.get?_push_of_some _ e)
  have ge : ((hp.push (PySem.W.kdv_tup us)).push (PySem.HandSPX.excO C hp.objs.size)).get? (hp.objs.size + 1) = some (PySem.HandSPX.excO C hp.objs.size) := by heap_get
  have I2 : Inv X pins σ (upd H1 (hp.objs.size + 1) (exo (hp.objs.size + 1) C none)) ⟨(hp.push (PySem.W.kdv_tup us)).push (PySem.HandSPX.excO C hp.objs.size), g, dr, tk, os⟩ :=
    I1.laid (t' := tk) (a := hp.objs.size + 1) (o := exo (hp.objs.size + 1) C none) (h' := (hp.push (PySem.W.kdv_tup us)).push (PySem.HandSPX.excO C hp.objs.size)) kk up1 (exo_ok ge)
  have r2 : Vals (V.ref (hp.objs.size + 1) :: vs) (Value.ref (hp.objs.size + 1) :: us) := .cons rfl r1
  have zl : us.length = fs.length := by rw [← Paired.length r1, hz]
  have hus : us.length ≤ sizeLine := by
    rw [zl, sizeLine_eq]
    exact Nat.le_trans R.len (by decide)
  refine wpAny_call (PySem.HandSPX.call_own ov.fb hT hC (PySem.W.looks_findIn I1.kIn iC) (fun self => PySem.W.bind_fn I1.kIn self tI) hus
    (codeAny_mono (F1.run _ X.stack _ _ ⟨Value.ref (hp.objs.size + 1) :: us, []⟩ (Value.ref (hp.objs.size + 1) :: us)
      (Q := fun v H2 => v = .non ∧ Mkg H1 H2 (hp.objs.size + 1) C (fs.zip vs).reverse) _ (fun _ _ _ => False) (hr.make C us []) (I2.env0.make C us [])
      (by simpa using hb _ (Value.ref (hp.objs.size + 1) :: us) I2.kIn (by rw [List.length_append, List.length_cons, zl]; rfl)) r2 ⟨_, C, H1, vs, rfl, hz, R.T, R.no, ⟨hn, .inl ⟨rfl, rfl⟩⟩, fun H' m => ⟨rfl, m⟩⟩) fun r s' hq' => ?_))
  cases r with
  | error er => exact False.elim hq'
  | ok fl =>
    cases fl with
    | ret u =>
      obtain ⟨v, H2, os2, bare2, un2, hok2, rv, ev, na, mk⟩ := hq'
      subst ev
      obtain ⟨h2, g2, d2, t2, os'⟩ := s'
      refine ⟨rv, ?_⟩
      rcases mk with ⟨mk, _⟩ | ⟨d, nd, ne, rfl⟩
      · have l0 := congrArg List.length mk
        rw [List.length_reverse, List.length_zip, ← hz, Nat.min_self, hz, List.length_nil] at l0
        have := R.pos
        omega
      · refine mk_end (raises_own R.T.ex.hs R.T.tyC) I1 up1 kk un2 hok2 os2 bare2 upd_same (by rw [upd_ne ne, upd_same]) nd ?_
        have e : upd (L2.del (upd (upd H1 d (exd d (fs.zip vs).reverse)) (hp.objs.size + 1) (exo (hp.objs.size + 1) C (some d))) (hp.objs.size + 1)) d (.xd (fs.zip vs).reverse) = upd H1 d (.xd (fs.zip vs).reverse) := by
          funext b
          by_cases h1 : b = d
          · rw [h1, upd_same, upd_same]
          · rw [upd_ne h1, upd_ne h1]
            by_cases h2 : b = hp.objs.size + 1
            · rw [h2, L2.del_same, hn]
            · rw [L2.del_ne h2, upd_ne h2, upd_ne h1]
        rw [e]
        exact qf d nd
    | next => exact False.elim hq'
    | brk => exact False.elim hq'
    | cont => exact False.elim hq'
theorem pmk_err (R : Er X.prog X.w X.K X.mg X.base x C fs) (hr : Room 2 X.A) (hg : Gl X x) (ha : PA X (e :: es) ta)
    (hdb : (x == ("__debug__" : Str)) = false := by decide) (he : starEach (e :: es) X.env = (false, eval e X.env) :: starEach es X.env := by rfl) (hpl : (backTo pos (starEach es X.env)).any (·.1) = false := by rfl) :
    PMk X (.Call (.Name x p) (e :: es) [] pos) (tMkE C fs ta) := fun pins s σ H Q I h => pmk_err0 R hr hg ha hdb he hpl pins s σ H Q I ⟨_, h, fun _ _ z => z⟩
end

/-- an error as a value: it is told, with its fields -/
def tErr (C : Addr) (fs : List Str) (ta : TA) : TE := fun σ H Q => ta σ H fun vs H1 => vs.length = fs.length ∧ ∀ H2 a d, Same H1 H2 → H1 a = none → H1 d = none → KeptAt H2 a C d (fs.zip vs).reverse → Q (.ref a) H2
theorem PE.weak {X : Cx} {e : Expr} {t u : TE} (h : PE X e t) (k : ∀ σ H Q, u σ H Q → t σ H Q) : PE X e u := ⟨fun pins s σ H Q I z => h.run pins s σ H Q I (k _ _ _ z)⟩
theorem pe_err {X : Cx} {x : Str} {C : Addr} {fs : List Str} {e : Expr} {es : List Expr} {ta : TA} {p pos : Pos} (x0 : X.ex = []) (st : X.stack = X.env :: X.outer) (fl : X.env.frame = some X.env.locals) (R : Er X.prog X.w X.K X.mg X.base x C fs) (hr : Room 2 X.A) (hg : Gl X x) (ha : PA X (e :: es) ta)
    (hdb : (x == ("__debug__" : Str)) = false := by decide) (he : starEach (e :: es) X.env = (false, eval e X.env) :: starEach es X.env := by rfl) (hpl : (backTo pos (starEach es X.env)).any (·.1) = false := by rfl) :
    PE X (.Call (.Name x p) (e :: es) [] pos) (tErr C fs ta) := by
  refine PE.weak (pe_kept x0 st fl (pmk_err0 R hr hg ha hdb he hpl)) fun σ H Q h => ⟨_, h, fun vs H1 ⟨l, q⟩ => ⟨l, fun d hd a ha => ?_⟩⟩
  have ne : a ≠ d := fun z => by rw [z, upd_same] at ha; cases ha
  have ha1 : H1 a = none := by rw [upd_ne ne] at ha; exact ha
  refine q _ a d ((same_new hd).trans (same_new ha)) ha1 hd ⟨upd_same, ?_⟩
  rw [upd_ne (Ne.symm ne), upd_same]
end Nb
namespace Nb
open PySem PySem.Spec PyProof.Rows Builtin.ObjectAttr
open L2 hiding del del_ne del_same
/-- all of it as one answer of the written part -/
def errB (K : PySem.W.Frag) (C : Addr) (bm : List Value) (nw : String) (fs : List Str) : Bool :=
  PySem.W.excInitIn K C bm nw && (PySem.W.excOver K C bm && (decide (PySem.W.findIn K (.ref C) "__setattr__" = some (some (.builtin "object.__setattr__"))) && (decide (PySem.W.typeIn K (.ref C) = some (.type "type")) && (PySem.W.keepIn K (.ref C) &&
  (decide (PySem.W.findIn K (.ref C) "__getattribute__" = some (some (.builtin "BaseException.__getattribute__"))) && (decide (PySem.W.findIn K (.ref C) "__getattr__" = some none) && (decide (PySem.W.subIn K (.ref C) (.type "BaseException") = some true) && (PySem.W.hasDictIn K C &&
  (decide (PySem.W.findIn K (.ref C) "__class__" = some (some (.builtin "object.__class__"))) && (decide (PySem.W.specialIn K (.builtin "object.__class__") "__get__" = some (some (.builtin "getset_descriptor.__get__"))) && (decide (PySem.W.takesIn K (.builtin "object.__class__") = some true) &&
  (decide (PySem.W.mroIn K C (.type "object") = some true) && fs.all fun f => decide (PySem.W.findIn K (.ref C) f = some none)))))))))))))
theorem er_mk {P : Program} {w : World} {K : PySem.W.Frag} {mg : Str → Option Value} {base : Heap} {x : Str} {C fI : Addr} {fd : FuncData} {fs : List Str} {B nw ini : String} {bm : List Value} (ov : Over B nw ini bm) (g : mg x = some (.ref C)) (q : errB K C bm nw fs = true)
    (i : PySem.W.findIn K (.ref C) "__init__" = some (some (.ref fI))) (t : PySem.W.typeIn K (.ref fI) = some (.type "function")) (b : Binds K fd ("self" :: fs) []) (G : FnOk P w K mg base CX0 1 fI fd ("self" :: fs) (spMk K fs)) (l1 : fs.length ≤ 900) (l2 : 1 ≤ fs.length) : Er P w K mg base x C fs := by
  unfold errB at q
  simp only [Bool.and_eq_true, decide_eq_true_eq, List.all_eq_true] at q
  obtain ⟨q1, q2, q3, q4, q5, q6, q7, q8, q9, q10, q11, q12, q13, q14⟩ := q
  exact ⟨⟨⟨B, nw, ini, bm, ov, q1, q2⟩, q3, q4, q5, ⟨q6, q7, q8, q9, q10, q11, q12, q13⟩⟩, g, q14, l1, l2, fI, fd, i, t, b, G⟩
theorem Er.xf {P : Program} {w : World} {K : PySem.W.Frag} {mg : Str → Option Value} {base : Heap} {x : Str} {C : Addr} {fs : List Str} (R : Er P w K mg base x C fs) : XfC K C := ⟨R.T.ex.hg, R.T.ex.hk, R.T.ex.hs, R.T.ex.hd⟩
/-- isinstance(e, (C, D, ..)) of a kept error -/
def rIsT (K : PySem.W.Frag) : List V → Hp → VK → Prop := fun xs H Q => ∃ (a D dd t : Addr) (fs : List (Str × V)) (cs : List V) (cvs : List Value) (b : Bool), xs = [.ref a, .ref t] ∧ ExcC K D ∧ KeptAt H a D dd fs ∧ SqT K H t cs ∧ (∀ us, Vals cs us → us = cvs) ∧ PySem.W.kitAny K (.ref D) cvs = some b ∧ Q (.bl b) H
theorem call_isKt {X : Cx} : CallR X (.builtin "isinstance") (rIsT X.K) := by
  intro pins s σ H xs us Q I r h
  obtain ⟨a, D, dd, t, fs, cs, cvs, b, rfl, C, ka, ht, hcv, e, q⟩ := h
  obtain ⟨oe, od, mA, J, _⟩ := kept_inst I.hok ka
  obtain ⟨its, ri, ⟨⟨tc, td, tdat, tsl⟩, et, ec1, n2, ed1⟩, _⟩ := I.tuple ht
  cases (show tc = Value.type "tuple" from ec1)
  cases (show tdat = Data.seq its.toArray n2 from ed1)
  cases r with
  | cons rx rr => cases rr with
    | cons rt rr =>
      cases rr
      cases rx
      cases rt
      obtain ⟨cd, hc, _⟩ := PySem.W.any_some C.hd
      have ec := hcv _ ri
      subst ec
      exact PySem.W.kia_tup (PySem.W.kitx_exc (by rw [hc]; rfl) C.hg C.hk C.hs C.ha C.hn C.ht C.hm) I.kIn J et e (fun z => nomatch z) fun tk => ⟨.bl b, H, I.kept (t' := tk) fun _ _ z => z, rfl, q⟩
end Nb

set_option Elab.async false
set_option linter.all false
set_option maxRecDepth 100000
set_option maxHeartbeats 4000000
namespace K01
open PySem Nb
open L2 hiding del del_ne del_same
def topS (i : Nat) : Stmt := PySem.Challenge.pw_nextbehind_k01_error_classes.main.body.getD i (.Pass ⟨0, 0, 0, 0⟩)
def clsAt (s : Stmt) (j : Nat) : Stmt := match s with
  | .ClassDef _ _ _ body _ _ _ _ _ _ _ => body.getD j (.Pass ⟨0, 0, 0, 0⟩)
  | _ => .Pass ⟨0, 0, 0, 0⟩
structure Txt (mg : Str → Option Value) : Prop where
  len : mg "len" = none
  isinstance : mg "isinstance" = none
  range : mg "range" = none
  enumerate : mg "enumerate" = none
  repr : mg "repr" = none
  ValueError : mg "ValueError" = none
  ArithmeticError : mg "ArithmeticError" = none
  LookupError : mg "LookupError" = none
  RuntimeError : mg "RuntimeError" = none
  KeyError : mg "KeyError" = none
  IndexError : mg "IndexError" = none
  OverflowError : mg "OverflowError" = none
  ZeroDivisionError : mg "ZeroDivisionError" = none
  TypeError : mg "TypeError" = none
section
variable {P : Program} {w : World} {K : PySem.W.Frag} {mg : Str → Option Value} {base : Heap}
abbrev s_h_source : Stmt := topS 26
theorem sc_h_source : FnScope ["_law_script", "_law_k", "_law_cell"] ["_law_script", "_law_k"] (defScope s_h_source) := ⟨rfl, rfl, rfl, by decide +kernel, rfl, by decide +kernel, by decide +kernel⟩
theorem ok_h_source {f : Addr} {fd : FuncData} (F : Fun K "_law_source" "_law_source" s_h_source f fd) (T : Txt mg) : FnOk P w K mg base CX0 1 f fd ["_law_script", "_law_k"] (spSource K) := by
  refine F.ok sc_h_source (fun vs H Q E h => ?_) (fun cdv A outer s H vs Q E hr h => ?_)
  · obtain ⟨a, ns, k, rfl, _⟩ := h
    rfl
  · obtain ⟨a, ns, k, rfl, hS, hlen, hk, q⟩ := h
    refine ⟨_, pss_cons (ps_set (i := 2) sc_h_source.nd rfl (Or.inl rfl) (pe_ifExp (pt_cmpR (op_neD hr.units) (pv 0) (pe_lst pa_nil) (nomark _)) (pe_ix ix_list (pv 0) (pe_op op_modN (pv 1) (pe_callB call_len_seq (by rfl) T.len PySem.boot_len (pa_cons (pv 0) pa_nil))) (fun _ _ => rfl)) pe_int))
        (pss_one (ps_ret (pe_lst (pa_cons (pv 2) (pa_cons (pe_op op_mul pe_int (pv 1)) (pa_cons (pe_ifExp (pt_cmpR op_ge (pv 2) (pe_op op_pow pe_int pe_int) (nomark _)) (pe_op op_fdivW (pv 2) (pe_op op_pow pe_int pe_int)) pe_int) pa_nil)))))), ?_⟩
    refine ⟨_, rfl, Nat.zero_le _, fun l hl => ?_⟩
    have s1 : Same H (upd H l (.lst [])) := same_new hl
    refine ⟨.list (ns.map PyData.int), .list [], .lst (s1.seq hS) (dp_ints ns), .lst (SqL.of upd_same) .nil, (fine_ints ns).shaped (by decide), by decide, _, rfl, ?_⟩

    rw [eqv_nil]
    cases ns with
    | nil =>
      refine iteF ?_
      refine ⟨_, rfl, _, rfl, _, _, rfl, rfl, .inl (by decide), _, rfl, _, _, rfl, rfl, ⟨by decide, by decide, by decide⟩, _, _, rfl, rfl, _, rfl, ?_⟩
      refine iteF ⟨(by show 3 ≤ sizeLine; decide), fun p hp => ?_⟩
      have s2 := s1.trans (same_new (o := .lst [.int 1, .int (3 * (k : Int)), .int 0]) hp)
      exact q _ p s2 (s1.free hp) ⟨1, 3 * (k : Int), 0, upd_same, by omega, by omega⟩
    | cons n ns =>
      refine iteT ?_
      have hl2 : ((k : Int).fmod ((((n :: ns).map V.int).length : Nat) : Int)) < (((n :: ns).map V.int).length : Nat) ∧ 0 ≤ (k : Int).fmod ((((n :: ns).map V.int).length : Nat) : Int) :=
        ⟨(fmod_pos _ (by simp; omega)).2, (fmod_pos _ (by simp; omega)).1⟩
      obtain ⟨j, hj⟩ : ∃ j : Nat, (k : Int).fmod ((((n :: ns).map V.int).length : Nat) : Int) = (j : Int) := ⟨_, (Int.toNat_of_nonneg hl2.2).symm⟩
      have hjl : j < (n :: ns).length := by
        have h1 := hl2.1
        rw [hj] at h1
        simp at h1 ⊢
        omega
      refine ⟨_, rfl, _, rfl, _, rfl, a, _, rfl, .inl (s1.seq hS), _, _, rfl, rfl, (by simp; omega), a, _, _, .int (n :: ns)[j], rfl, rfl, s1.seq hS, ?_, ?_⟩
      · rw [hj]
        refine atI_nat ?_
        rw [List.getElem?_map, List.getElem?_eq_getElem hjl]
        rfl
      · refine ⟨_, rfl, _, rfl, _, _, rfl, rfl, .inl (by decide), _, rfl, _, _, rfl, rfl, ⟨by decide, by decide, by decide⟩, _, _, rfl, rfl, _, rfl, ?_⟩
        refine ite2 (fun _ => ?_) (fun _ => ?_)
        · refine ⟨_, rfl, _, _, rfl, rfl, ⟨by decide, by decide, by decide⟩, _, _, rfl, rfl, wide_div (b := 70) (by decide) (by decide) (by decide) (by decide), (by show 3 ≤ sizeLine; decide), fun p hp => ?_⟩
          exact q _ p (s1.trans (same_new hp)) (s1.free hp) ⟨_, 3 * (k : Int), _, upd_same, by omega, by omega⟩
        · refine ⟨(by show 3 ≤ sizeLine; decide), fun p hp => ?_⟩
          exact q _ p (s1.trans (same_new hp)) (s1.free hp) ⟨_, 3 * (k : Int), _, upd_same, by omega, by omega⟩
abbrev s_h_next : Stmt := topS 27
theorem sc_h_next : FnScope ["_law_source_here", "_law_many", "_law_found", "_law_primes", "_law_prime"] ["_law_source_here", "_law_many"] (defScope s_h_next) := ⟨rfl, rfl, rfl, by decide +kernel, rfl, by decide +kernel, by decide +kernel⟩
theorem ok_h_next {f : Addr} {fd : FuncData} (F : Fun K "_law_next" "_law_next" s_h_next f fd) (T : Txt mg) : FnOk P w K mg base CX0 1 f fd ["_law_source_here", "_law_many"] (spNext) := by
  refine F.ok sc_h_next (fun vs H Q E h => ?_) (fun cdv A outer s H vs Q E hr h => ?_)
  · obtain ⟨p, m, b, G, rfl, _⟩ := h
    rfl
  · obtain ⟨p, m, b, G, rfl, m1, m2, ⟨c, n, r, hp, hn, hb⟩, hB, hG, hs, q⟩ := h
    refine ⟨_, pss_cons (ps_if (pt_cmpR op_gt (pe_ix ix_list (pv 0) pe_int (fun _ _ => rfl)) pe_int (nomark _)) (pss_cons (ps_set (i := 2) sc_h_next.nd rfl (Or.inl rfl) (pe_op op_modN (pe_ix ix_list (pv 0) pe_int (fun _ _ => rfl)) (pv 1)))
        (pss_cons (ps_asg (pe_op op_fdivN (pe_ix ix_list (pv 0) pe_int (fun _ _ => rfl)) (pv 1)) (pg_sub (pv 0) pe_int set_list))
        (pss_one (ps_ret (pv 2))))) pss_nil)
        (pss_cons (ps_asg (pe_op op_add (pe_ix ix_list (pv 0) pe_int (fun _ _ => rfl)) pe_int) (pg_sub (pv 0) pe_int set_list))
        (pss_cons (ps_set (i := 3) sc_h_next.nd rfl (Or.inl rfl) (pe_lst (pa_cons pe_int (pa_cons pe_int (pa_cons pe_int (pa_cons pe_int (pa_cons pe_int (pa_cons pe_int (pa_cons pe_int (pa_cons pe_int pa_nil))))))))))
        (pss_cons (ps_set (i := 4) sc_h_next.nd rfl (Or.inl rfl) (pe_ix ix_list (pe_op op_cat (pv 3) (pe_lst (pa_cons pe_int (pa_cons pe_int (pa_cons pe_int pa_nil))))) (pe_op op_modN (pe_ix ix_list (pv 0) pe_int (fun _ _ => rfl)) pe_int) (fun _ _ => rfl)))
        (pss_one (ps_ret (pe_op op_modN (pe_op op_fdivN (pe_op op_modN (pe_op op_pow (pe_op op_add (pe_op op_add (pe_op op_modN (pe_ix ix_list (pv 0) pe_int (fun _ _ => rfl)) (pv 4)) (pe_op op_mul pe_int (pe_ix ix_list (pv 0) pe_int (fun _ _ => rfl)))) pe_int) pe_int) (pv 4)) pe_int) (pv 1))))))), ?_⟩
    refine ⟨_, rfl, p, _, _, _, rfl, rfl, SqL.of hp, atI_nat (j := 2) rfl, _, _, rfl, rfl, _, rfl, ?_⟩
    refine ite2 (fun _ => ?_) (fun _ => ?_)
    · refine ⟨_, rfl, p, _, _, _, rfl, rfl, SqL.of hp, atI_nat (j := 2) rfl, _, rfl, _, _, rfl, rfl, (by omega), ?_⟩
      refine ⟨_, rfl, p, _, _, _, rfl, rfl, SqL.of hp, atI_nat (j := 2) rfl, _, rfl, _, _, rfl, rfl, ⟨by omega, by omega⟩, _, rfl, p, _, _, 2, rfl, rfl, hp, rfl, _, rfl, ?_⟩
      have f1 := fmod_pos r m1
      exact q _ _ f1.1 f1.2 (same_at hs hG) ⟨c, n, _, upd_same, hn, by omega⟩
    · refine ⟨_, rfl, p, _, _, _, rfl, rfl, SqL.of hp, atI_nat (j := 1) rfl, _, _, rfl, rfl, _, rfl, p, _, _, 1, rfl, rfl, hp, rfl, ?_⟩
      refine ⟨(by show 8 ≤ sizeLine; decide), fun l1 hl1 => ?_⟩
      have npl1 : p ≠ l1 := ne_of_none upd_same hl1
      have hp1 : (upd (upd H p (.lst [.int c, .int (n + 1), .int r])) l1 (.lst ((primes.take 8).map V.int))) p = some (.lst [.int c, .int (n + 1), .int r]) := by
        rw [upd_ne npl1]
        exact upd_same
      refine ⟨_, rfl, (by show 3 ≤ sizeLine; decide), fun l2 hl2 => ?_⟩
      have npl2 : p ≠ l2 := ne_of_none hp1 hl2
      have nl12 : l1 ≠ l2 := ne_of_none upd_same hl2
      refine ⟨l1, l2, _, _, rfl, rfl, (by rw [upd_ne nl12]; exact upd_same), upd_same, (by show 8 + 3 ≤ sizeLine; decide), fun l3 hl3 => ?_⟩
      have hp2 : ∀ o2 : HO, (upd (upd (upd H p (.lst [.int c, .int (n + 1), .int r])) l1 (.lst ((primes.take 8).map V.int))) l2 o2) p = some (.lst [.int c, .int (n + 1), .int r]) := fun o2 => by
        rw [upd_ne npl2]
        exact hp1
      have npl3 : p ≠ l3 := ne_of_none (hp2 _) hl3
      have hp3 : ∀ o2 o3 : HO, (upd (upd (upd (upd H p (.lst [.int c, .int (n + 1), .int r])) l1 (.lst ((primes.take 8).map V.int))) l2 o2) l3 o3) p = some (.lst [.int c, .int (n + 1), .int r]) := fun o2 o3 => by
        rw [upd_ne npl3]
        exact hp2 _
      have f0 := fmod_pos (n + 1) (show (1 : Int) ≤ 11 by decide)
      obtain ⟨pr, ep, pr2, pr31⟩ := prime_at _ f0.1 f0.2
      refine ⟨_, rfl, p, _, _, _, rfl, rfl, SqL.of (hp3 _ _), atI_nat (j := 1) rfl, _, _, rfl, rfl, (by show (11 : Int) ≠ 0; decide), l3, _, _, _, rfl, rfl, SqL.of upd_same, ep, ?_⟩
      have f1 := fmod_pos c (show 1 ≤ pr by omega)
      refine ⟨_, rfl, p, _, _, _, rfl, rfl, SqL.of (hp3 _ _), atI_nat (j := 0) rfl, _, rfl, _, _, rfl, rfl, (by omega), _, rfl, p, _, _, _, rfl, rfl, SqL.of (hp3 _ _), atI_nat (j := 1) rfl, _, _, rfl, rfl, .inl (by decide), _, _, rfl, rfl,
        _, _, rfl, rfl, _, _, rfl, rfl, ⟨by decide, by decide, (by omega)⟩, _, rfl, _, _, rfl, rfl, (by omega), _, _, rfl, rfl, ⟨by decide, by decide⟩, _, rfl, _, _, rfl, rfl, (by omega), ?_⟩
      have f2 := fmod_pos ((((c.fmod pr + 7919 * (n + 1) + 1) ^ (5 : Int).toNat).fmod pr).fdiv 13) m1
      have s1 : Same G (upd H p (.lst [.int c, .int (n + 1), .int r])) := same_at hs hG
      exact q _ _ f2.1 f2.2 (((s1.trans (same_new hl1)).trans (same_new hl2)).trans (same_new hl3)) ⟨c, n + 1, r, hp3 _ _, by omega, by omega⟩
abbrev s_h_pick : Stmt := topS 28
theorem sc_h_pick : FnScope ["_law_source_here", "_law_items"] ["_law_source_here", "_law_items"] (defScope s_h_pick) := ⟨rfl, rfl, rfl, by decide +kernel, rfl, by decide +kernel, by decide +kernel⟩
theorem ok_h_pick {f : Addr} {fd : FuncData} (F : Fun K "_law_pick" "_law_pick" s_h_pick f fd) (T : Txt mg) (D_h_next : Dn P w K mg base CX0 1 "_law_next" ["_law_source_here", "_law_many"] (spNext)) : FnOk P w K mg base CX0 2 f fd ["_law_source_here", "_law_items"] (spPick) := by
  refine F.ok sc_h_pick (fun vs H Q E h => ?_) (fun cdv A outer s H vs Q E hr h => ?_)
  · obtain ⟨p, l, xs, b, G, rfl, _⟩ := h
    rfl
  · obtain ⟨p, l, xs, b, G, rfl, hl, h1, h2, hS, hB, hG, hs, q⟩ := h
    refine ⟨_, pss_one (ps_ret (pe_ix ix_list (pv 1) (pe_D D_h_next (hr.mono (by decide)) (by rfl) pass0 (pa_cons (pv 0) (pa_cons (pe_callB call_len_seq (by rfl) T.len PySem.boot_len (pa_cons (pv 1) pa_nil)) pa_nil))) (fun _ _ => rfl))), ?_⟩
    refine ⟨_, rfl, _, rfl, _, rfl, l, xs, rfl, .inl (SqL.of (hs _ _ hl)), p, _, b, G, rfl, (by omega), (by omega), hS, hB, hG, hs, fun H1 k k0 k1 s1 S1 => ?_⟩
    obtain ⟨j, rfl⟩ : ∃ j : Nat, k = (j : Int) := ⟨_, (Int.toNat_of_nonneg k0).symm⟩
    have hj : j < xs.length := by omega
    exact ⟨l, _, _, xs[j], rfl, rfl, SqL.of (s1 _ _ hl), atI_nat (List.getElem?_eq_getElem hj), q H1 _ (List.getElem_mem hj) s1 S1⟩
abbrev sI_BadName : Stmt := clsAt (topS 5) 0
theorem scI_BadName : FnScope ["self", "reason"] ["self", "reason"] (defScope sI_BadName) := ⟨rfl, rfl, rfl, by decide +kernel, rfl, by decide +kernel, by decide +kernel⟩
theorem okI_BadName {f : Addr} {fd : FuncData} (F : Fun K "__init__" "BadName.__init__" sI_BadName f fd) : FnOk P w K mg base CX0 1 f fd ["self", "reason"] (spMk K ["reason"]) := by
  refine F.ok scI_BadName (fun vs H Q E h => ?_) (fun cdv A outer s H vs Q E hr h => ?_)
  · obtain ⟨a, C, H0, ws, rfl, l, _⟩ := h
    exact congrArg (· + 1) l
  · obtain ⟨a, C, H0, ws, rfl, l, hC, hn, mk, q⟩ := h
    match ws, l with
    | [v1], _ =>
      refine ⟨_, pss_one (ps_put (pv 0) (pv 1)), ?_⟩
      refine ⟨_, rfl, _, rfl, a, C, H0, [], rfl, hC, hn "reason" (by simp), (by show 0 ≤ 900; decide), mk, fun H1 mk1 => ?_⟩
      exact q _ mk1
abbrev sI_BadBases : Stmt := clsAt (topS 6) 0
theorem scI_BadBases : FnScope ["self", "reason"] ["self", "reason"] (defScope sI_BadBases) := ⟨rfl, rfl, rfl, by decide +kernel, rfl, by decide +kernel, by decide +kernel⟩
theorem okI_BadBases {f : Addr} {fd : FuncData} (F : Fun K "__init__" "BadBases.__init__" sI_BadBases f fd) : FnOk P w K mg base CX0 1 f fd ["self", "reason"] (spMk K ["reason"]) := by
  refine F.ok scI_BadBases (fun vs H Q E h => ?_) (fun cdv A outer s H vs Q E hr h => ?_)
  · obtain ⟨a, C, H0, ws, rfl, l, _⟩ := h
    exact congrArg (· + 1) l
  · obtain ⟨a, C, H0, ws, rfl, l, hC, hn, mk, q⟩ := h
    match ws, l with
    | [v1], _ =>
      refine ⟨_, pss_one (ps_put (pv 0) (pv 1)), ?_⟩
      refine ⟨_, rfl, _, rfl, a, C, H0, [], rfl, hC, hn "reason" (by simp), (by show 0 ≤ 900; decide), mk, fun H1 mk1 => ?_⟩
      exact q _ mk1
abbrev sI_BadMethod : Stmt := clsAt (topS 7) 0
theorem scI_BadMethod : FnScope ["self", "name"] ["self", "name"] (defScope sI_BadMethod) := ⟨rfl, rfl, rfl, by decide +kernel, rfl, by decide +kernel, by decide +kernel⟩
theorem okI_BadMethod {f : Addr} {fd : FuncData} (F : Fun K "__init__" "BadMethod.__init__" sI_BadMethod f fd) : FnOk P w K mg base CX0 1 f fd ["self", "name"] (spMk K ["name"]) := by
  refine F.ok scI_BadMethod (fun vs H Q E h => ?_) (fun cdv A outer s H vs Q E hr h => ?_)
  · obtain ⟨a, C, H0, ws, rfl, l, _⟩ := h
    exact congrArg (· + 1) l
  · obtain ⟨a, C, H0, ws, rfl, l, hC, hn, mk, q⟩ := h
    match ws, l with
    | [v1], _ =>
      refine ⟨_, pss_one (ps_put (pv 0) (pv 1)), ?_⟩
      refine ⟨_, rfl, _, rfl, a, C, H0, [], rfl, hC, hn "name" (by simp), (by show 0 ≤ 900; decide), mk, fun H1 mk1 => ?_⟩
      exact q _ mk1
abbrev sI_BadTuple : Stmt := clsAt (topS 8) 0
theorem scI_BadTuple : FnScope ["self", "index"] ["self", "index"] (defScope sI_BadTuple) := ⟨rfl, rfl, rfl, by decide +kernel, rfl, by decide +kernel, by decide +kernel⟩
theorem okI_BadTuple {f : Addr} {fd : FuncData} (F : Fun K "__init__" "BadTuple.__init__" sI_BadTuple f fd) : FnOk P w K mg base CX0 1 f fd ["self", "index"] (spMk K ["index"]) := by
  refine F.ok scI_BadTuple (fun vs H Q E h => ?_) (fun cdv A outer s H vs Q E hr h => ?_)
  · obtain ⟨a, C, H0, ws, rfl, l, _⟩ := h
    exact congrArg (· + 1) l
  · obtain ⟨a, C, H0, ws, rfl, l, hC, hn, mk, q⟩ := h
    match ws, l with
    | [v1], _ =>
      refine ⟨_, pss_one (ps_put (pv 0) (pv 1)), ?_⟩
      refine ⟨_, rfl, _, rfl, a, C, H0, [], rfl, hC, hn "index" (by simp), (by show 0 ≤ 900; decide), mk, fun H1 mk1 => ?_⟩
      exact q _ mk1
abbrev sI_BadNames : Stmt := clsAt (topS 9) 0
theorem scI_BadNames : FnScope ["self", "reason"] ["self", "reason"] (defScope sI_BadNames) := ⟨rfl, rfl, rfl, by decide +kernel, rfl, by decide +kernel, by decide +kernel⟩
theorem okI_BadNames {f : Addr} {fd : FuncData} (F : Fun K "__init__" "BadNames.__init__" sI_BadNames f fd) : FnOk P w K mg base CX0 1 f fd ["self", "reason"] (spMk K ["reason"]) := by
  refine F.ok scI_BadNames (fun vs H Q E h => ?_) (fun cdv A outer s H vs Q E hr h => ?_)
  · obtain ⟨a, C, H0, ws, rfl, l, _⟩ := h
    exact congrArg (· + 1) l
  · obtain ⟨a, C, H0, ws, rfl, l, hC, hn, mk, q⟩ := h
    match ws, l with
    | [v1], _ =>
      refine ⟨_, pss_one (ps_put (pv 0) (pv 1)), ?_⟩
      refine ⟨_, rfl, _, rfl, a, C, H0, [], rfl, hC, hn "reason" (by simp), (by show 0 ≤ 900; decide), mk, fun H1 mk1 => ?_⟩
      exact q _ mk1
abbrev sI_BadFuture : Stmt := clsAt (topS 10) 0
theorem scI_BadFuture : FnScope ["self", "reason"] ["self", "reason"] (defScope sI_BadFuture) := ⟨rfl, rfl, rfl, by decide +kernel, rfl, by decide +kernel, by decide +kernel⟩
theorem okI_BadFuture {f : Addr} {fd : FuncData} (F : Fun K "__init__" "BadFuture.__init__" sI_BadFuture f fd) : FnOk P w K mg base CX0 1 f fd ["self", "reason"] (spMk K ["reason"]) := by
  refine F.ok scI_BadFuture (fun vs H Q E h => ?_) (fun cdv A outer s H vs Q E hr h => ?_)
  · obtain ⟨a, C, H0, ws, rfl, l, _⟩ := h
    exact congrArg (· + 1) l
  · obtain ⟨a, C, H0, ws, rfl, l, hC, hn, mk, q⟩ := h
    match ws, l with
    | [v1], _ =>
      refine ⟨_, pss_one (ps_put (pv 0) (pv 1)), ?_⟩
      refine ⟨_, rfl, _, rfl, a, C, H0, [], rfl, hC, hn "reason" (by simp), (by show 0 ≤ 900; decide), mk, fun H1 mk1 => ?_⟩
      exact q _ mk1
abbrev sI_BadOptions : Stmt := clsAt (topS 11) 0
theorem scI_BadOptions : FnScope ["self", "reason"] ["self", "reason"] (defScope sI_BadOptions) := ⟨rfl, rfl, rfl, by decide +kernel, rfl, by decide +kernel, by decide +kernel⟩
theorem okI_BadOptions {f : Addr} {fd : FuncData} (F : Fun K "__init__" "BadOptions.__init__" sI_BadOptions f fd) : FnOk P w K mg base CX0 1 f fd ["self", "reason"] (spMk K ["reason"]) := by
  refine F.ok scI_BadOptions (fun vs H Q E h => ?_) (fun cdv A outer s H vs Q E hr h => ?_)
  · obtain ⟨a, C, H0, ws, rfl, l, _⟩ := h
    exact congrArg (· + 1) l
  · obtain ⟨a, C, H0, ws, rfl, l, hC, hn, mk, q⟩ := h
    match ws, l with
    | [v1], _ =>
      refine ⟨_, pss_one (ps_put (pv 0) (pv 1)), ?_⟩
      refine ⟨_, rfl, _, rfl, a, C, H0, [], rfl, hC, hn "reason" (by simp), (by show 0 ≤ 900; decide), mk, fun H1 mk1 => ?_⟩
      exact q _ mk1
abbrev sI_BadIndex : Stmt := clsAt (topS 12) 0
theorem scI_BadIndex : FnScope ["self", "reason"] ["self", "reason"] (defScope sI_BadIndex) := ⟨rfl, rfl, rfl, by decide +kernel, rfl, by decide +kernel, by decide +kernel⟩
theorem okI_BadIndex {f : Addr} {fd : FuncData} (F : Fun K "__init__" "BadIndex.__init__" sI_BadIndex f fd) : FnOk P w K mg base CX0 1 f fd ["self", "reason"] (spMk K ["reason"]) := by
  refine F.ok scI_BadIndex (fun vs H Q E h => ?_) (fun cdv A outer s H vs Q E hr h => ?_)
  · obtain ⟨a, C, H0, ws, rfl, l, _⟩ := h
    exact congrArg (· + 1) l
  · obtain ⟨a, C, H0, ws, rfl, l, hC, hn, mk, q⟩ := h
    match ws, l with
    | [v1], _ =>
      refine ⟨_, pss_one (ps_put (pv 0) (pv 1)), ?_⟩
      refine ⟨_, rfl, _, rfl, a, C, H0, [], rfl, hC, hn "reason" (by simp), (by show 0 ≤ 900; decide), mk, fun H1 mk1 => ?_⟩
      exact q _ mk1
abbrev sI_BadSteps : Stmt := clsAt (topS 13) 0
theorem scI_BadSteps : FnScope ["self", "reason"] ["self", "reason"] (defScope sI_BadSteps) := ⟨rfl, rfl, rfl, by decide +kernel, rfl, by decide +kernel, by decide +kernel⟩
theorem okI_BadSteps {f : Addr} {fd : FuncData} (F : Fun K "__init__" "BadSteps.__init__" sI_BadSteps f fd) : FnOk P w K mg base CX0 1 f fd ["self", "reason"] (spMk K ["reason"]) := by
  refine F.ok scI_BadSteps (fun vs H Q E h => ?_) (fun cdv A outer s H vs Q E hr h => ?_)
  · obtain ⟨a, C, H0, ws, rfl, l, _⟩ := h
    exact congrArg (· + 1) l
  · obtain ⟨a, C, H0, ws, rfl, l, hC, hn, mk, q⟩ := h
    match ws, l with
    | [v1], _ =>
      refine ⟨_, pss_one (ps_put (pv 0) (pv 1)), ?_⟩
      refine ⟨_, rfl, _, rfl, a, C, H0, [], rfl, hC, hn "reason" (by simp), (by show 0 ≤ 900; decide), mk, fun H1 mk1 => ?_⟩
      exact q _ mk1
abbrev sI_BadChange : Stmt := clsAt (topS 14) 0
theorem scI_BadChange : FnScope ["self", "index"] ["self", "index"] (defScope sI_BadChange) := ⟨rfl, rfl, rfl, by decide +kernel, rfl, by decide +kernel, by decide +kernel⟩
theorem okI_BadChange {f : Addr} {fd : FuncData} (F : Fun K "__init__" "BadChange.__init__" sI_BadChange f fd) : FnOk P w K mg base CX0 1 f fd ["self", "index"] (spMk K ["index"]) := by
  refine F.ok scI_BadChange (fun vs H Q E h => ?_) (fun cdv A outer s H vs Q E hr h => ?_)
  · obtain ⟨a, C, H0, ws, rfl, l, _⟩ := h
    exact congrArg (· + 1) l
  · obtain ⟨a, C, H0, ws, rfl, l, hC, hn, mk, q⟩ := h
    match ws, l with
    | [v1], _ =>
      refine ⟨_, pss_one (ps_put (pv 0) (pv 1)), ?_⟩
      refine ⟨_, rfl, _, rfl, a, C, H0, [], rfl, hC, hn "index" (by simp), (by show 0 ≤ 900; decide), mk, fun H1 mk1 => ?_⟩
      exact q _ mk1
abbrev sI_BadText : Stmt := clsAt (topS 15) 0
theorem scI_BadText : FnScope ["self", "line"] ["self", "line"] (defScope sI_BadText) := ⟨rfl, rfl, rfl, by decide +kernel, rfl, by decide +kernel, by decide +kernel⟩
theorem okI_BadText {f : Addr} {fd : FuncData} (F : Fun K "__init__" "BadText.__init__" sI_BadText f fd) : FnOk P w K mg base CX0 1 f fd ["self", "line"] (spMk K ["line"]) := by
  refine F.ok scI_BadText (fun vs H Q E h => ?_) (fun cdv A outer s H vs Q E hr h => ?_)
  · obtain ⟨a, C, H0, ws, rfl, l, _⟩ := h
    exact congrArg (· + 1) l
  · obtain ⟨a, C, H0, ws, rfl, l, hC, hn, mk, q⟩ := h
    match ws, l with
    | [v1], _ =>
      refine ⟨_, pss_one (ps_put (pv 0) (pv 1)), ?_⟩
      refine ⟨_, rfl, _, rfl, a, C, H0, [], rfl, hC, hn "line" (by simp), (by show 0 ≤ 900; decide), mk, fun H1 mk1 => ?_⟩
      exact q _ mk1
abbrev sI_TooMany : Stmt := clsAt (topS 16) 0
theorem scI_TooMany : FnScope ["self", "limit"] ["self", "limit"] (defScope sI_TooMany) := ⟨rfl, rfl, rfl, by decide +kernel, rfl, by decide +kernel, by decide +kernel⟩
theorem okI_TooMany {f : Addr} {fd : FuncData} (F : Fun K "__init__" "TooMany.__init__" sI_TooMany f fd) : FnOk P w K mg base CX0 1 f fd ["self", "limit"] (spMk K ["limit"]) := by
  refine F.ok scI_TooMany (fun vs H Q E h => ?_) (fun cdv A outer s H vs Q E hr h => ?_)
  · obtain ⟨a, C, H0, ws, rfl, l, _⟩ := h
    exact congrArg (· + 1) l
  · obtain ⟨a, C, H0, ws, rfl, l, hC, hn, mk, q⟩ := h
    match ws, l with
    | [v1], _ =>
      refine ⟨_, pss_one (ps_put (pv 0) (pv 1)), ?_⟩
      refine ⟨_, rfl, _, rfl, a, C, H0, [], rfl, hC, hn "limit" (by simp), (by show 0 ≤ 900; decide), mk, fun H1 mk1 => ?_⟩
      exact q _ mk1
abbrev sI_Clash : Stmt := clsAt (topS 17) 0
theorem scI_Clash : FnScope ["self", "name", "tuples", "steps"] ["self", "name", "tuples", "steps"] (defScope sI_Clash) := ⟨rfl, rfl, rfl, by decide +kernel, rfl, by decide +kernel, by decide +kernel⟩
theorem okI_Clash {f : Addr} {fd : FuncData} (F : Fun K "__init__" "Clash.__init__" sI_Clash f fd) : FnOk P w K mg base CX0 1 f fd ["self", "name", "tuples", "steps"] (spMk K ["name", "tuples", "steps"]) := by
  refine F.ok scI_Clash (fun vs H Q E h => ?_) (fun cdv A outer s H vs Q E hr h => ?_)
  · obtain ⟨a, C, H0, ws, rfl, l, _⟩ := h
    exact congrArg (· + 1) l
  · obtain ⟨a, C, H0, ws, rfl, l, hC, hn, mk, q⟩ := h
    match ws, l with
    | [v1, v2, v3], _ =>
      refine ⟨_, pss_cons (ps_put (pv 0) (pv 1)) (pss_cons (ps_put (pv 0) (pv 2)) (pss_one (ps_put (pv 0) (pv 3)))), ?_⟩
      refine ⟨_, rfl, _, rfl, a, C, H0, [], rfl, hC, hn "name" (by simp), (by show 0 ≤ 900; decide), mk, fun H1 mk1 => ?_⟩
      refine ⟨_, rfl, _, rfl, a, C, H0, _, rfl, hC, hn "tuples" (by simp), (by show 1 ≤ 900; decide), mk1, fun H2 mk2 => ?_⟩
      refine ⟨_, rfl, _, rfl, a, C, H0, _, rfl, hC, hn "steps" (by simp), (by show 2 ≤ 900; decide), mk2, fun H3 mk3 => ?_⟩
      exact q _ mk3
abbrev sI_Taken : Stmt := clsAt (topS 18) 0
theorem scI_Taken : FnScope ["self", "name"] ["self", "name"] (defScope sI_Taken) := ⟨rfl, rfl, rfl, by decide +kernel, rfl, by decide +kernel, by decide +kernel⟩
theorem okI_Taken {f : Addr} {fd : FuncData} (F : Fun K "__init__" "Taken.__init__" sI_Taken f fd) : FnOk P w K mg base CX0 1 f fd ["self", "name"] (spMk K ["name"]) := by
  refine F.ok scI_Taken (fun vs H Q E h => ?_) (fun cdv A outer s H vs Q E hr h => ?_)
  · obtain ⟨a, C, H0, ws, rfl, l, _⟩ := h
    exact congrArg (· + 1) l
  · obtain ⟨a, C, H0, ws, rfl, l, hC, hn, mk, q⟩ := h
    match ws, l with
    | [v1], _ =>
      refine ⟨_, pss_one (ps_put (pv 0) (pv 1)), ?_⟩
      refine ⟨_, rfl, _, rfl, a, C, H0, [], rfl, hC, hn "name" (by simp), (by show 0 ≤ 900; decide), mk, fun H1 mk1 => ?_⟩
      exact q _ mk1
abbrev sI_InUse : Stmt := clsAt (topS 19) 0
theorem scI_InUse : FnScope ["self", "name", "user"] ["self", "name", "user"] (defScope sI_InUse) := ⟨rfl, rfl, rfl, by decide +kernel, rfl, by decide +kernel, by decide +kernel⟩
theorem okI_InUse {f : Addr} {fd : FuncData} (F : Fun K "__init__" "InUse.__init__" sI_InUse f fd) : FnOk P w K mg base CX0 1 f fd ["self", "name", "user"] (spMk K ["name", "user"]) := by
  refine F.ok scI_InUse (fun vs H Q E h => ?_) (fun cdv A outer s H vs Q E hr h => ?_)
  · obtain ⟨a, C, H0, ws, rfl, l, _⟩ := h
    exact congrArg (· + 1) l
  · obtain ⟨a, C, H0, ws, rfl, l, hC, hn, mk, q⟩ := h
    match ws, l with
    | [v1, v2], _ =>
      refine ⟨_, pss_cons (ps_put (pv 0) (pv 1)) (pss_one (ps_put (pv 0) (pv 2))), ?_⟩
      refine ⟨_, rfl, _, rfl, a, C, H0, [], rfl, hC, hn "name" (by simp), (by show 0 ≤ 900; decide), mk, fun H1 mk1 => ?_⟩
      refine ⟨_, rfl, _, rfl, a, C, H0, _, rfl, hC, hn "user" (by simp), (by show 1 ≤ 900; decide), mk1, fun H2 mk2 => ?_⟩
      exact q _ mk2
abbrev sI_NoClass : Stmt := clsAt (topS 20) 0
theorem scI_NoClass : FnScope ["self", "name"] ["self", "name"] (defScope sI_NoClass) := ⟨rfl, rfl, rfl, by decide +kernel, rfl, by decide +kernel, by decide +kernel⟩
theorem okI_NoClass {f : Addr} {fd : FuncData} (F : Fun K "__init__" "NoClass.__init__" sI_NoClass f fd) : FnOk P w K mg base CX0 1 f fd ["self", "name"] (spMk K ["name"]) := by
  refine F.ok scI_NoClass (fun vs H Q E h => ?_) (fun cdv A outer s H vs Q E hr h => ?_)
  · obtain ⟨a, C, H0, ws, rfl, l, _⟩ := h
    exact congrArg (· + 1) l
  · obtain ⟨a, C, H0, ws, rfl, l, hC, hn, mk, q⟩ := h
    match ws, l with
    | [v1], _ =>
      refine ⟨_, pss_one (ps_put (pv 0) (pv 1)), ?_⟩
      refine ⟨_, rfl, _, rfl, a, C, H0, [], rfl, hC, hn "name" (by simp), (by show 0 ≤ 900; decide), mk, fun H1 mk1 => ?_⟩
      exact q _ mk1
abbrev sI_NoMethod : Stmt := clsAt (topS 21) 0
theorem scI_NoMethod : FnScope ["self", "name", "method"] ["self", "name", "method"] (defScope sI_NoMethod) := ⟨rfl, rfl, rfl, by decide +kernel, rfl, by decide +kernel, by decide +kernel⟩
theorem okI_NoMethod {f : Addr} {fd : FuncData} (F : Fun K "__init__" "NoMethod.__init__" sI_NoMethod f fd) : FnOk P w K mg base CX0 1 f fd ["self", "name", "method"] (spMk K ["name", "method"]) := by
  refine F.ok scI_NoMethod (fun vs H Q E h => ?_) (fun cdv A outer s H vs Q E hr h => ?_)
  · obtain ⟨a, C, H0, ws, rfl, l, _⟩ := h
    exact congrArg (· + 1) l
  · obtain ⟨a, C, H0, ws, rfl, l, hC, hn, mk, q⟩ := h
    match ws, l with
    | [v1, v2], _ =>
      refine ⟨_, pss_cons (ps_put (pv 0) (pv 1)) (pss_one (ps_put (pv 0) (pv 2))), ?_⟩
      refine ⟨_, rfl, _, rfl, a, C, H0, [], rfl, hC, hn "name" (by simp), (by show 0 ≤ 900; decide), mk, fun H1 mk1 => ?_⟩
      refine ⟨_, rfl, _, rfl, a, C, H0, _, rfl, hC, hn "method" (by simp), (by show 1 ≤ 900; decide), mk1, fun H2 mk2 => ?_⟩
      exact q _ mk2
abbrev sI_Wanted : Stmt := clsAt (topS 22) 0
theorem scI_Wanted : FnScope ["self", "name", "option"] ["self", "name", "option"] (defScope sI_Wanted) := ⟨rfl, rfl, rfl, by decide +kernel, rfl, by decide +kernel, by decide +kernel⟩
theorem okI_Wanted {f : Addr} {fd : FuncData} (F : Fun K "__init__" "Wanted.__init__" sI_Wanted f fd) : FnOk P w K mg base CX0 1 f fd ["self", "name", "option"] (spMk K ["name", "option"]) := by
  refine F.ok scI_Wanted (fun vs H Q E h => ?_) (fun cdv A outer s H vs Q E hr h => ?_)
  · obtain ⟨a, C, H0, ws, rfl, l, _⟩ := h
    exact congrArg (· + 1) l
  · obtain ⟨a, C, H0, ws, rfl, l, hC, hn, mk, q⟩ := h
    match ws, l with
    | [v1, v2], _ =>
      refine ⟨_, pss_cons (ps_put (pv 0) (pv 1)) (pss_one (ps_put (pv 0) (pv 2))), ?_⟩
      refine ⟨_, rfl, _, rfl, a, C, H0, [], rfl, hC, hn "name" (by simp), (by show 0 ≤ 900; decide), mk, fun H1 mk1 => ?_⟩
      refine ⟨_, rfl, _, rfl, a, C, H0, _, rfl, hC, hn "option" (by simp), (by show 1 ≤ 900; decide), mk1, fun H2 mk2 => ?_⟩
      exact q _ mk2
abbrev sI_Twice : Stmt := clsAt (topS 23) 0
theorem scI_Twice : FnScope ["self", "name", "option"] ["self", "name", "option"] (defScope sI_Twice) := ⟨rfl, rfl, rfl, by decide +kernel, rfl, by decide +kernel, by decide +kernel⟩
theorem okI_Twice {f : Addr} {fd : FuncData} (F : Fun K "__init__" "Twice.__init__" sI_Twice f fd) : FnOk P w K mg base CX0 1 f fd ["self", "name", "option"] (spMk K ["name", "option"]) := by
  refine F.ok scI_Twice (fun vs H Q E h => ?_) (fun cdv A outer s H vs Q E hr h => ?_)
  · obtain ⟨a, C, H0, ws, rfl, l, _⟩ := h
    exact congrArg (· + 1) l
  · obtain ⟨a, C, H0, ws, rfl, l, hC, hn, mk, q⟩ := h
    match ws, l with
    | [v1, v2], _ =>
      refine ⟨_, pss_cons (ps_put (pv 0) (pv 1)) (pss_one (ps_put (pv 0) (pv 2))), ?_⟩
      refine ⟨_, rfl, _, rfl, a, C, H0, [], rfl, hC, hn "name" (by simp), (by show 0 ≤ 900; decide), mk, fun H1 mk1 => ?_⟩
      refine ⟨_, rfl, _, rfl, a, C, H0, _, rfl, hC, hn "option" (by simp), (by show 1 ≤ 900; decide), mk1, fun H2 mk2 => ?_⟩
      exact q _ mk2
abbrev sI_Unasked : Stmt := clsAt (topS 24) 0
theorem scI_Unasked : FnScope ["self", "options"] ["self", "options"] (defScope sI_Unasked) := ⟨rfl, rfl, rfl, by decide +kernel, rfl, by decide +kernel, by decide +kernel⟩
theorem okI_Unasked {f : Addr} {fd : FuncData} (F : Fun K "__init__" "Unasked.__init__" sI_Unasked f fd) : FnOk P w K mg base CX0 1 f fd ["self", "options"] (spMk K ["options"]) := by
  refine F.ok scI_Unasked (fun vs H Q E h => ?_) (fun cdv A outer s H vs Q E hr h => ?_)
  · obtain ⟨a, C, H0, ws, rfl, l, _⟩ := h
    exact congrArg (· + 1) l
  · obtain ⟨a, C, H0, ws, rfl, l, hC, hn, mk, q⟩ := h
    match ws, l with
    | [v1], _ =>
      refine ⟨_, pss_one (ps_put (pv 0) (pv 1)), ?_⟩
      refine ⟨_, rfl, _, rfl, a, C, H0, [], rfl, hC, hn "options" (by simp), (by show 0 ≤ 900; decide), mk, fun H1 mk1 => ?_⟩
      exact q _ mk1
end
end K01

set_option Elab.async false
set_option linter.all false
set_option maxRecDepth 100000
set_option maxHeartbeats 4000000
namespace K01
open PySem Nb
open L2 hiding del del_ne del_same
abbrev tab (l : List Addr) : Nat → Addr := fun i => l.getD i 0
def FsL (x : V) : List (List (PySem.Str × V)) := [[("reason", x)], [("reason", x)], [("name", x)], [("index", x)], [("reason", x)], [("reason", x)], [("reason", x)], [("reason", x)], [("reason", x)], [("index", x)], [("line", x)], [("limit", x)],
  [("steps", .int 2), ("tuples", .int 1), ("name", x)], [("name", x)], [("user", .int 3), ("name", x)], [("name", x)], [("method", .int 4), ("name", x)], [("option", .int 5), ("name", x)], [("option", .int 6), ("name", x)], [("options", x)]]
abbrev Fs (x : V) (i : Nat) : List (PySem.Str × V) := (FsL x).getD i []
abbrev off (i : Nat) : Nat := [0, 11, 15, 17, 20].getD i 0
abbrev len (i : Nat) : Nat := [11, 4, 2, 3].getD i 0
def Groups (H : Hp) (g e : Nat → Addr) : Prop := ∀ i, i < 4 → H (g i) = some (.lst ((List.range' (off i) (len i)).map fun j => .ref (e j)))
theorem groups_same {H H' : Hp} {g e : Nat → Addr} (s : Same H H') (h : Groups H g e) : Groups H' g e := fun i hi => s _ _ (h i hi)
/-- the errors, each under its number -/
def Errs (C : Nat → Addr) (x : V) (H : Hp) (r : Addr) (g e d : Nat → Addr) : Prop := H r = some (.lst [.ref (g 0), .ref (g 1), .ref (g 2), .ref (g 3)]) ∧ Groups H g e ∧ ∀ i, i < 20 → KeptAt H (e i) (C i) (d i) (Fs x i)
theorem errs_same {C : Nat → Addr} {x : V} {H H' : Hp} {r : Addr} {g e d : Nat → Addr} (s : Same H H') (h : Errs C x H r g e d) : Errs C x H' r g e d := ⟨s _ _ h.1, groups_same s h.2.1, fun i hi => kept_same s (h.2.2 i hi)⟩
def spMade (C : Nat → Addr) : Sp := fun vs H Q _ => ∃ x, vs = [x] ∧ ∀ H' r (g e d : Nat → Addr), Same H H' → Errs C x H' r g e d → Q (.ref r) H'
theorem all20 {p : Nat → Prop} (h0 : p 0) (h1 : p 1) (h2 : p 2) (h3 : p 3) (h4 : p 4) (h5 : p 5) (h6 : p 6) (h7 : p 7) (h8 : p 8) (h9 : p 9) (h10 : p 10) (h11 : p 11) (h12 : p 12) (h13 : p 13) (h14 : p 14) (h15 : p 15) (h16 : p 16) (h17 : p 17) (h18 : p 18) (h19 : p 19) : ∀ i, i < 20 → p i
  | 0, _ => h0 | 1, _ => h1 | 2, _ => h2 | 3, _ => h3 | 4, _ => h4 | 5, _ => h5 | 6, _ => h6 | 7, _ => h7 | 8, _ => h8 | 9, _ => h9 | 10, _ => h10 | 11, _ => h11 | 12, _ => h12 | 13, _ => h13 | 14, _ => h14 | 15, _ => h15 | 16, _ => h16 | 17, _ => h17 | 18, _ => h18 | 19, _ => h19
  | n + 20, h => absurd h (by omega)
theorem all4 {p : Nat → Prop} (h0 : p 0) (h1 : p 1) (h2 : p 2) (h3 : p 3) : ∀ i, i < 4 → p i
  | 0, _ => h0 | 1, _ => h1 | 2, _ => h2 | 3, _ => h3
  | n + 4, h => absurd h (by omega)
/-- the group that an error is in -/
def fam (n : Nat) : Nat := if n < 11 then 0 else if n < 15 then 1 else if n < 17 then 2 else 3
def bn (f : Nat) : String := ["ValueError", "ArithmeticError", "LookupError", "RuntimeError"].getD f ""
abbrev oth : List String := ["KeyError", "IndexError", "OverflowError", "ZeroDivisionError", "TypeError"]
structure Kits (K : PySem.W.Frag) (C W : Nat → Addr) : Prop where
  own : ∀ i j, i < 20 → j < 20 → PySem.W.kitOne K (.ref (C i)) (.ref (C j)) = some (decide (j = i))
  fam : ∀ i f, i < 20 → f < 4 → PySem.W.kitOne K (.ref (C i)) (.ref (W f)) = some (decide (f = fam i))
  bas : ∀ i f, i < 20 → f < 4 → PySem.W.kitOne K (.ref (C i)) (.type (bn f)) = some (decide (f = K01.fam i))
  oth : ∀ i, i < 20 → PySem.W.kitAny K (.ref (C i)) (oth.map Value.type) = some false
def kitsB (K : PySem.W.Frag) (C W : Nat → Addr) : Bool := (List.range 20).all fun i => ((List.range 20).all fun j => decide (PySem.W.kitOne K (.ref (C i)) (.ref (C j)) = some (decide (j = i)))) &&
  (((List.range 4).all fun f => decide (PySem.W.kitOne K (.ref (C i)) (.ref (W f)) = some (decide (f = fam i)))) && (((List.range 4).all fun f => decide (PySem.W.kitOne K (.ref (C i)) (.type (bn f)) = some (decide (f = fam i)))) &&
  decide (PySem.W.kitAny K (.ref (C i)) (oth.map Value.type) = some false)))
theorem kits_of {K : PySem.W.Frag} {C W : Nat → Addr} (h : kitsB K C W = true) : Kits K C W := by
  unfold kitsB at h
  simp only [List.all_eq_true, List.mem_range, Bool.and_eq_true, decide_eq_true_eq] at h
  exact ⟨fun i j hi hj => (h i hi).1 j hj, fun i f hi hf => (h i hi).2.1 f hf, fun i f hi hf => (h i hi).2.2.1 f hf, fun i hi => (h i hi).2.2.2⟩
def marks (n i : Nat) : List Bool := (List.range n).map fun j => decide (j = i)
def spMarks (K : PySem.W.Frag) (C : Nat → Addr) : Sp := fun vs H Q _ => ∃ (a dd : Addr) (i : Nat) (fs : List (PySem.Str × V)), vs = [.ref a] ∧ i < 20 ∧ KeptAt H a (C i) dd fs ∧ ExcC K (C i) ∧ ∀ H' l, Same H H' → H' l = some (.lst ((marks 20 i).map V.bl)) → Q (.ref l) H'
section
variable {P : Program} {w : World} {K : PySem.W.Frag} {mg : Str → Option Value} {base : Heap}
abbrev s_h_made_errors : Stmt := topS 29
theorem sc_h_made_errors : FnScope ["_law_x", "_law_some", "_law_limits"] ["_law_x"] (defScope s_h_made_errors) := ⟨rfl, rfl, rfl, by decide +kernel, rfl, by decide +kernel, by decide +kernel⟩
theorem ok_h_made_errors {f : Addr} {fd : FuncData} (F : Fun K "_law_made_errors" "_law_made_errors" s_h_made_errors f fd) {C_BadBases : Addr} {C_BadChange : Addr} {C_BadFuture : Addr} {C_BadIndex : Addr} {C_BadMethod : Addr} {C_BadName : Addr} {C_BadNames : Addr} {C_BadOptions : Addr} {C_BadSteps : Addr} {C_BadText : Addr} {C_BadTuple : Addr} {C_Clash : Addr} {C_InUse : Addr} {C_NoClass : Addr} {C_NoMethod : Addr} {C_Taken : Addr} {C_TooMany : Addr} {C_Twice : Addr} {C_Unasked : Addr} {C_Wanted : Addr} (T : Txt mg) (E_BadBases : Er P w K mg base "BadBases" C_BadBases ["reason"]) (E_BadChange : Er P w K mg base "BadChange" C_BadChange ["index"]) (E_BadFuture : Er P w K mg base "BadFuture" C_BadFuture ["reason"]) (E_BadIndex : Er P w K mg base "BadIndex" C_BadIndex ["reason"]) (E_BadMethod : Er P w K mg base "BadMethod" C_BadMethod ["name"]) (E_BadName : Er P w K mg base "BadName" C_BadName ["reason"]) (E_BadNames : Er P w K mg base "BadNames" C_BadNames ["reason"]) (E_BadOptions : Er P w K mg base "BadOptions" C_BadOptions ["reason"]) (E_BadSteps : Er P w K mg base "BadSteps" C_BadSteps ["reason"]) (E_BadText : Er P w K mg base "BadText" C_BadText ["line"]) (E_BadTuple : Er P w K mg base "BadTuple" C_BadTuple ["index"]) (E_Clash : Er P w K mg base "Clash" C_Clash ["name", "tuples", "steps"]) (E_InUse : Er P w K mg base "InUse" C_InUse ["name", "user"]) (E_NoClass : Er P w K mg base "NoClass" C_NoClass ["name"]) (E_NoMethod : Er P w K mg base "NoMethod" C_NoMethod ["name", "method"]) (E_Taken : Er P w K mg base "Taken" C_Taken ["name"]) (E_TooMany : Er P w K mg base "TooMany" C_TooMany ["limit"]) (E_Twice : Er P w K mg base "Twice" C_Twice ["name", "option"]) (E_Unasked : Er P w K mg base "Unasked" C_Unasked ["options"]) (E_Wanted : Er P w K mg base "Wanted" C_Wanted ["name", "option"]) : FnOk P w K mg base CX0 3 f fd ["_law_x"] (spMade (tab [C_BadName, C_BadBases, C_BadMethod, C_BadTuple, C_BadNames, C_BadFuture, C_BadOptions, C_BadIndex, C_BadSteps, C_BadChange, C_BadText, C_TooMany, C_Clash, C_Taken, C_InUse, C_NoClass, C_NoMethod, C_Wanted, C_Twice, C_Unasked])) := by
  refine F.ok sc_h_made_errors (fun vs H Q E h => ?_) (fun cdv A outer s H vs Q E hr h => ?_)
  · obtain ⟨x, rfl, _⟩ := h
    rfl
  · obtain ⟨x, rfl, q⟩ := h
    refine ⟨_, pss_cons (ps_set (i := 1) sc_h_made_errors.nd rfl (Or.inl rfl) (pe_lstS (pa_cons (pe_err rfl rfl rfl E_BadName (hr.mono (by decide)) (by rfl) (pa_cons (pv 0) pa_nil)) (pa_cons (pe_err rfl rfl rfl E_BadBases (hr.mono (by decide)) (by rfl) (pa_cons (pv 0) pa_nil)) (pa_cons (pe_err rfl rfl rfl E_BadMethod (hr.mono (by decide)) (by rfl) (pa_cons (pv 0) pa_nil)) (pa_cons (pe_err rfl rfl rfl E_BadTuple (hr.mono (by decide)) (by rfl) (pa_cons (pv 0) pa_nil)) (pa_cons (pe_err rfl rfl rfl E_BadNames (hr.mono (by decide)) (by rfl) (pa_cons (pv 0) pa_nil)) (pa_cons (pe_err rfl rfl rfl E_BadFuture (hr.mono (by decide)) (by rfl) (pa_cons (pv 0) pa_nil)) (pa_cons (pe_err rfl rfl rfl E_BadOptions (hr.mono (by decide)) (by rfl) (pa_cons (pv 0) pa_nil)) (pa_cons (pe_err rfl rfl rfl E_BadIndex (hr.mono (by decide)) (by rfl) (pa_cons (pv 0) pa_nil)) pa_nil))))))))))
        (pss_cons (ps_set (i := 1) sc_h_made_errors.nd rfl (Or.inl rfl) (pe_op op_catS (pv 1) (pe_lstS (pa_cons (pe_err rfl rfl rfl E_BadSteps (hr.mono (by decide)) (by rfl) (pa_cons (pv 0) pa_nil)) (pa_cons (pe_err rfl rfl rfl E_BadChange (hr.mono (by decide)) (by rfl) (pa_cons (pv 0) pa_nil)) (pa_cons (pe_err rfl rfl rfl E_BadText (hr.mono (by decide)) (by rfl) (pa_cons (pv 0) pa_nil)) pa_nil))))))
        (pss_cons (ps_set (i := 2) sc_h_made_errors.nd rfl (Or.inl rfl) (pe_lstS (pa_cons (pe_err rfl rfl rfl E_TooMany (hr.mono (by decide)) (by rfl) (pa_cons (pv 0) pa_nil)) (pa_cons (pe_err rfl rfl rfl E_Clash (hr.mono (by decide)) (by rfl) (pa_cons (pv 0) (pa_cons pe_int (pa_cons pe_int pa_nil)))) (pa_cons (pe_err rfl rfl rfl E_Taken (hr.mono (by decide)) (by rfl) (pa_cons (pv 0) pa_nil)) (pa_cons (pe_err rfl rfl rfl E_InUse (hr.mono (by decide)) (by rfl) (pa_cons (pv 0) (pa_cons pe_int pa_nil))) pa_nil))))))
        (pss_one (ps_ret (pe_lstS (pa_cons (pv 1) (pa_cons (pv 2) (pa_cons (pe_lstS (pa_cons (pe_err rfl rfl rfl E_NoClass (hr.mono (by decide)) (by rfl) (pa_cons (pv 0) pa_nil)) (pa_cons (pe_err rfl rfl rfl E_NoMethod (hr.mono (by decide)) (by rfl) (pa_cons (pv 0) (pa_cons pe_int pa_nil))) pa_nil))) (pa_cons (pe_lstS (pa_cons (pe_err rfl rfl rfl E_Wanted (hr.mono (by decide)) (by rfl) (pa_cons (pv 0) (pa_cons pe_int pa_nil))) (pa_cons (pe_err rfl rfl rfl E_Twice (hr.mono (by decide)) (by rfl) (pa_cons (pv 0) (pa_cons pe_int pa_nil))) (pa_cons (pe_err rfl rfl rfl E_Unasked (hr.mono (by decide)) (by rfl) (pa_cons (pv 0) pa_nil)) pa_nil)))) pa_nil))))))))), ?_⟩
    refine ⟨_, rfl, rfl, fun H0 e0 d0 s0 _ _ k0 => ?_⟩
    refine ⟨_, rfl, rfl, fun H1 e1 d1 s1 _ _ k1 => ?_⟩
    refine ⟨_, rfl, rfl, fun H2 e2 d2 s2 _ _ k2 => ?_⟩
    refine ⟨_, rfl, rfl, fun H3 e3 d3 s3 _ _ k3 => ?_⟩
    refine ⟨_, rfl, rfl, fun H4 e4 d4 s4 _ _ k4 => ?_⟩
    refine ⟨_, rfl, rfl, fun H5 e5 d5 s5 _ _ k5 => ?_⟩
    refine ⟨_, rfl, rfl, fun H6 e6 d6 s6 _ _ k6 => ?_⟩
    refine ⟨_, rfl, rfl, fun H7 e7 d7 s7 _ _ k7 => ?_⟩
    refine ⟨(by show 8 ≤ 100000; decide), fun HA lA sA _ eA => ?_⟩
    refine ⟨_, rfl, ?_⟩
    refine ⟨_, rfl, rfl, fun H8 e8 d8 s8 _ _ k8 => ?_⟩
    refine ⟨_, rfl, rfl, fun H9 e9 d9 s9 _ _ k9 => ?_⟩
    refine ⟨_, rfl, rfl, fun H10 e10 d10 s10 _ _ k10 => ?_⟩
    refine ⟨(by show 3 ≤ 100000; decide), fun HB lB sB _ eB => ?_⟩
    refine ⟨lA, lB, _, _, rfl, rfl, ((s8.trans s9).trans (s10.trans sB)) _ _ eA, eB, (by show 8 + 3 ≤ 100000; decide), fun HC lC sC _ eC => ?_⟩
    refine ⟨_, rfl, rfl, fun H11 e11 d11 s11 _ _ k11 => ?_⟩
    refine ⟨_, rfl, rfl, fun H12 e12 d12 s12 _ _ k12 => ?_⟩
    refine ⟨_, rfl, rfl, fun H13 e13 d13 s13 _ _ k13 => ?_⟩
    refine ⟨_, rfl, rfl, fun H14 e14 d14 s14 _ _ k14 => ?_⟩
    refine ⟨(by show 4 ≤ 100000; decide), fun HD lD sD _ eD => ?_⟩
    refine ⟨_, rfl, _, rfl, ?_⟩
    refine ⟨_, rfl, rfl, fun H15 e15 d15 s15 _ _ k15 => ?_⟩
    refine ⟨_, rfl, rfl, fun H16 e16 d16 s16 _ _ k16 => ?_⟩
    refine ⟨(by show 2 ≤ 100000; decide), fun HE lE sE _ eE => ?_⟩
    refine ⟨_, rfl, rfl, fun H17 e17 d17 s17 _ _ k17 => ?_⟩
    refine ⟨_, rfl, rfl, fun H18 e18 d18 s18 _ _ k18 => ?_⟩
    refine ⟨_, rfl, rfl, fun H19 e19 d19 s19 _ _ k19 => ?_⟩
    refine ⟨(by show 3 ≤ 100000; decide), fun HF lF sF _ eF => ?_⟩
    refine ⟨(by show 4 ≤ 100000; decide), fun HG lG sG _ eG => ?_⟩
    have t27 := Same.refl HG
    have t26 := sG.trans t27
    have t25 := sF.trans t26
    have t24 := s19.trans t25
    have t23 := s18.trans t24
    have t22 := s17.trans t23
    have t21 := sE.trans t22
    have t20 := s16.trans t21
    have t19 := s15.trans t20
    have t18 := sD.trans t19
    have t17 := s14.trans t18
    have t16 := s13.trans t17
    have t15 := s12.trans t16
    have t14 := s11.trans t15
    have t13 := sC.trans t14
    have t12 := sB.trans t13
    have t11 := s10.trans t12
    have t10 := s9.trans t11
    have t9 := s8.trans t10
    have t8 := sA.trans t9
    have t7 := s7.trans t8
    have t6 := s6.trans t7
    have t5 := s5.trans t6
    have t4 := s4.trans t5
    have t3 := s3.trans t4
    have t2 := s2.trans t3
    have t1 := s1.trans t2
    have t0 := s0.trans t1
    refine q HG lG (tab [lC, lD, lE, lF]) (tab [e0, e1, e2, e3, e4, e5, e6, e7, e8, e9, e10, e11, e12, e13, e14, e15, e16, e17, e18, e19]) (tab [d0, d1, d2, d3, d4, d5, d6, d7, d8, d9, d10, d11, d12, d13, d14, d15, d16, d17, d18, d19]) t0 ⟨eG, all4 (t14 _ _ eC) (t19 _ _ eD) (t22 _ _ eE) (t26 _ _ eF), all20 (kept_same t1 k0) (kept_same t2 k1) (kept_same t3 k2) (kept_same t4 k3) (kept_same t5 k4) (kept_same t6 k5) (kept_same t7 k6) (kept_same t8 k7) (kept_same t10 k8) (kept_same t11 k9) (kept_same t12 k10) (kept_same t15 k11) (kept_same t16 k12) (kept_same t17 k13) (kept_same t18 k14) (kept_same t20 k15) (kept_same t21 k16) (kept_same t23 k17) (kept_same t24 k18) (kept_same t25 k19)⟩
abbrev s_h_class_marks : Stmt := topS 30
theorem sc_h_class_marks : FnScope ["_law_e", "_law_found"] ["_law_e"] (defScope s_h_class_marks) := ⟨rfl, rfl, rfl, by decide +kernel, rfl, by decide +kernel, by decide +kernel⟩
theorem ok_h_class_marks {f : Addr} {fd : FuncData} (F : Fun K "_law_class_marks" "_law_class_marks" s_h_class_marks f fd) {C_BadBases : Addr} {C_BadChange : Addr} {C_BadFuture : Addr} {C_BadIndex : Addr} {C_BadMethod : Addr} {C_BadName : Addr} {C_BadNames : Addr} {C_BadOptions : Addr} {C_BadSteps : Addr} {C_BadText : Addr} {C_BadTuple : Addr} {C_Clash : Addr} {C_InUse : Addr} {C_NoClass : Addr} {C_NoMethod : Addr} {C_Taken : Addr} {C_TooMany : Addr} {C_Twice : Addr} {C_Unasked : Addr} {C_Wanted : Addr} (T : Txt mg) (E_BadBases : Er P w K mg base "BadBases" C_BadBases ["reason"]) (E_BadChange : Er P w K mg base "BadChange" C_BadChange ["index"]) (E_BadFuture : Er P w K mg base "BadFuture" C_BadFuture ["reason"]) (E_BadIndex : Er P w K mg base "BadIndex" C_BadIndex ["reason"]) (E_BadMethod : Er P w K mg base "BadMethod" C_BadMethod ["name"]) (E_BadName : Er P w K mg base "BadName" C_BadName ["reason"]) (E_BadNames : Er P w K mg base "BadNames" C_BadNames ["reason"]) (E_BadOptions : Er P w K mg base "BadOptions" C_BadOptions ["reason"]) (E_BadSteps : Er P w K mg base "BadSteps" C_BadSteps ["reason"]) (E_BadText : Er P w K mg base "BadText" C_BadText ["line"]) (E_BadTuple : Er P w K mg base "BadTuple" C_BadTuple ["index"]) (E_Clash : Er P w K mg base "Clash" C_Clash ["name", "tuples", "steps"]) (E_InUse : Er P w K mg base "InUse" C_InUse ["name", "user"]) (E_NoClass : Er P w K mg base "NoClass" C_NoClass ["name"]) (E_NoMethod : Er P w K mg base "NoMethod" C_NoMethod ["name", "method"]) (E_Taken : Er P w K mg base "Taken" C_Taken ["name"]) (E_TooMany : Er P w K mg base "TooMany" C_TooMany ["limit"]) (E_Twice : Er P w K mg base "Twice" C_Twice ["name", "option"]) (E_Unasked : Er P w K mg base "Unasked" C_Unasked ["options"]) (E_Wanted : Er P w K mg base "Wanted" C_Wanted ["name", "option"]) {W : Nat → Addr} (kt : Kits K (tab [C_BadName, C_BadBases, C_BadMethod, C_BadTuple, C_BadNames, C_BadFuture, C_BadOptions, C_BadIndex, C_BadSteps, C_BadChange, C_BadText, C_TooMany, C_Clash, C_Taken, C_InUse, C_NoClass, C_NoMethod, C_Wanted, C_Twice, C_Unasked]) W) : FnOk P w K mg base CX0 3 f fd ["_law_e"] (spMarks K (tab [C_BadName, C_BadBases, C_BadMethod, C_BadTuple, C_BadNames, C_BadFuture, C_BadOptions, C_BadIndex, C_BadSteps, C_BadChange, C_BadText, C_TooMany, C_Clash, C_Taken, C_InUse, C_NoClass, C_NoMethod, C_Wanted, C_Twice, C_Unasked])) := by
  refine F.ok sc_h_class_marks (fun vs H Q E h => ?_) (fun cdv A outer s H vs Q E hr h => ?_)
  · obtain ⟨a, dd, i, fs, rfl, _⟩ := h
    rfl
  · obtain ⟨a, dd, i, fs, rfl, hi, ka, ex, q⟩ := h
    refine ⟨_, pss_cons (ps_set (i := 1) sc_h_class_marks.nd rfl (Or.inl rfl) (pe_lstS (pa_cons (pe_callB call_isK (by rfl) T.isinstance (by decide +kernel) (pa_cons (pv 0) (pa_cons (pe_glob (v := .ref C_BadName) (by rfl) E_BadName.g rfl) pa_nil))) (pa_cons (pe_callB call_isK (by rfl) T.isinstance (by decide +kernel) (pa_cons (pv 0) (pa_cons (pe_glob (v := .ref C_BadBases) (by rfl) E_BadBases.g rfl) pa_nil))) (pa_cons (pe_callB call_isK (by rfl) T.isinstance (by decide +kernel) (pa_cons (pv 0) (pa_cons (pe_glob (v := .ref C_BadMethod) (by rfl) E_BadMethod.g rfl) pa_nil))) (pa_cons (pe_callB call_isK (by rfl) T.isinstance (by decide +kernel) (pa_cons (pv 0) (pa_cons (pe_glob (v := .ref C_BadTuple) (by rfl) E_BadTuple.g rfl) pa_nil))) pa_nil))))))
        (pss_cons (ps_set (i := 1) sc_h_class_marks.nd rfl (Or.inl rfl) (pe_op op_catS (pv 1) (pe_lstS (pa_cons (pe_callB call_isK (by rfl) T.isinstance (by decide +kernel) (pa_cons (pv 0) (pa_cons (pe_glob (v := .ref C_BadNames) (by rfl) E_BadNames.g rfl) pa_nil))) (pa_cons (pe_callB call_isK (by rfl) T.isinstance (by decide +kernel) (pa_cons (pv 0) (pa_cons (pe_glob (v := .ref C_BadFuture) (by rfl) E_BadFuture.g rfl) pa_nil))) (pa_cons (pe_callB call_isK (by rfl) T.isinstance (by decide +kernel) (pa_cons (pv 0) (pa_cons (pe_glob (v := .ref C_BadOptions) (by rfl) E_BadOptions.g rfl) pa_nil))) pa_nil))))))
        (pss_cons (ps_set (i := 1) sc_h_class_marks.nd rfl (Or.inl rfl) (pe_op op_catS (pv 1) (pe_lstS (pa_cons (pe_callB call_isK (by rfl) T.isinstance (by decide +kernel) (pa_cons (pv 0) (pa_cons (pe_glob (v := .ref C_BadIndex) (by rfl) E_BadIndex.g rfl) pa_nil))) (pa_cons (pe_callB call_isK (by rfl) T.isinstance (by decide +kernel) (pa_cons (pv 0) (pa_cons (pe_glob (v := .ref C_BadSteps) (by rfl) E_BadSteps.g rfl) pa_nil))) (pa_cons (pe_callB call_isK (by rfl) T.isinstance (by decide +kernel) (pa_cons (pv 0) (pa_cons (pe_glob (v := .ref C_BadChange) (by rfl) E_BadChange.g rfl) pa_nil))) pa_nil))))))
        (pss_cons (ps_set (i := 1) sc_h_class_marks.nd rfl (Or.inl rfl) (pe_op op_catS (pv 1) (pe_lstS (pa_cons (pe_callB call_isK (by rfl) T.isinstance (by decide +kernel) (pa_cons (pv 0) (pa_cons (pe_glob (v := .ref C_BadText) (by rfl) E_BadText.g rfl) pa_nil))) (pa_cons (pe_callB call_isK (by rfl) T.isinstance (by decide +kernel) (pa_cons (pv 0) (pa_cons (pe_glob (v := .ref C_TooMany) (by rfl) E_TooMany.g rfl) pa_nil))) (pa_cons (pe_callB call_isK (by rfl) T.isinstance (by decide +kernel) (pa_cons (pv 0) (pa_cons (pe_glob (v := .ref C_Clash) (by rfl) E_Clash.g rfl) pa_nil))) (pa_cons (pe_callB call_isK (by rfl) T.isinstance (by decide +kernel) (pa_cons (pv 0) (pa_cons (pe_glob (v := .ref C_Taken) (by rfl) E_Taken.g rfl) pa_nil))) pa_nil)))))))
        (pss_cons (ps_set (i := 1) sc_h_class_marks.nd rfl (Or.inl rfl) (pe_op op_catS (pv 1) (pe_lstS (pa_cons (pe_callB call_isK (by rfl) T.isinstance (by decide +kernel) (pa_cons (pv 0) (pa_cons (pe_glob (v := .ref C_InUse) (by rfl) E_InUse.g rfl) pa_nil))) (pa_cons (pe_callB call_isK (by rfl) T.isinstance (by decide +kernel) (pa_cons (pv 0) (pa_cons (pe_glob (v := .ref C_NoClass) (by rfl) E_NoClass.g rfl) pa_nil))) (pa_cons (pe_callB call_isK (by rfl) T.isinstance (by decide +kernel) (pa_cons (pv 0) (pa_cons (pe_glob (v := .ref C_NoMethod) (by rfl) E_NoMethod.g rfl) pa_nil))) (pa_cons (pe_callB call_isK (by rfl) T.isinstance (by decide +kernel) (pa_cons (pv 0) (pa_cons (pe_glob (v := .ref C_Wanted) (by rfl) E_Wanted.g rfl) pa_nil))) pa_nil)))))))
        (pss_one (ps_ret (pe_op op_catS (pv 1) (pe_lstS (pa_cons (pe_callB call_isK (by rfl) T.isinstance (by decide +kernel) (pa_cons (pv 0) (pa_cons (pe_glob (v := .ref C_Twice) (by rfl) E_Twice.g rfl) pa_nil))) (pa_cons (pe_callB call_isK (by rfl) T.isinstance (by decide +kernel) (pa_cons (pv 0) (pa_cons (pe_glob (v := .ref C_Unasked) (by rfl) E_Unasked.g rfl) pa_nil))) pa_nil)))))))))), ?_⟩
    refine ⟨_, rfl, a, _, dd, fs, .ref _, _, _, rfl, ex, ka, fun u h => h, kt.own i 0 hi (by decide), ?_⟩
    refine ⟨_, rfl, a, _, dd, fs, .ref _, _, _, rfl, ex, ka, fun u h => h, kt.own i 1 hi (by decide), ?_⟩
    refine ⟨_, rfl, a, _, dd, fs, .ref _, _, _, rfl, ex, ka, fun u h => h, kt.own i 2 hi (by decide), ?_⟩
    refine ⟨_, rfl, a, _, dd, fs, .ref _, _, _, rfl, ex, ka, fun u h => h, kt.own i 3 hi (by decide), ?_⟩
    refine ⟨(by show 4 ≤ 100000; decide), fun HA0 lA0 sA0 _ eA0 => ?_⟩
    have k0 := kept_same sA0 ka
    have T0 := sA0
    refine ⟨_, rfl, ?_⟩
    refine ⟨_, rfl, a, _, dd, fs, .ref _, _, _, rfl, ex, k0, fun u h => h, kt.own i 4 hi (by decide), ?_⟩
    refine ⟨_, rfl, a, _, dd, fs, .ref _, _, _, rfl, ex, k0, fun u h => h, kt.own i 5 hi (by decide), ?_⟩
    refine ⟨_, rfl, a, _, dd, fs, .ref _, _, _, rfl, ex, k0, fun u h => h, kt.own i 6 hi (by decide), ?_⟩
    refine ⟨(by show 3 ≤ 100000; decide), fun HB0 lB0 sB0 _ eB0 => ?_⟩
    refine ⟨lA0, lB0, _, _, rfl, rfl, sB0 _ _ eA0, eB0, (by show 4 + 3 ≤ 100000; decide), fun HA1 lA1 sA1 _ eA1 => ?_⟩
    have T1 := T0.trans (sB0.trans sA1)
    have k1 := kept_same (sB0.trans sA1) k0
    refine ⟨_, rfl, ?_⟩
    refine ⟨_, rfl, a, _, dd, fs, .ref _, _, _, rfl, ex, k1, fun u h => h, kt.own i 7 hi (by decide), ?_⟩
    refine ⟨_, rfl, a, _, dd, fs, .ref _, _, _, rfl, ex, k1, fun u h => h, kt.own i 8 hi (by decide), ?_⟩
    refine ⟨_, rfl, a, _, dd, fs, .ref _, _, _, rfl, ex, k1, fun u h => h, kt.own i 9 hi (by decide), ?_⟩
    refine ⟨(by show 3 ≤ 100000; decide), fun HB1 lB1 sB1 _ eB1 => ?_⟩
    refine ⟨lA1, lB1, _, _, rfl, rfl, sB1 _ _ eA1, eB1, (by show 7 + 3 ≤ 100000; decide), fun HA2 lA2 sA2 _ eA2 => ?_⟩
    have T2 := T1.trans (sB1.trans sA2)
    have k2 := kept_same (sB1.trans sA2) k1
    refine ⟨_, rfl, ?_⟩
    refine ⟨_, rfl, a, _, dd, fs, .ref _, _, _, rfl, ex, k2, fun u h => h, kt.own i 10 hi (by decide), ?_⟩
    refine ⟨_, rfl, a, _, dd, fs, .ref _, _, _, rfl, ex, k2, fun u h => h, kt.own i 11 hi (by decide), ?_⟩
    refine ⟨_, rfl, a, _, dd, fs, .ref _, _, _, rfl, ex, k2, fun u h => h, kt.own i 12 hi (by decide), ?_⟩
    refine ⟨_, rfl, a, _, dd, fs, .ref _, _, _, rfl, ex, k2, fun u h => h, kt.own i 13 hi (by decide), ?_⟩
    refine ⟨(by show 4 ≤ 100000; decide), fun HB2 lB2 sB2 _ eB2 => ?_⟩
    refine ⟨lA2, lB2, _, _, rfl, rfl, sB2 _ _ eA2, eB2, (by show 10 + 4 ≤ 100000; decide), fun HA3 lA3 sA3 _ eA3 => ?_⟩
    have T3 := T2.trans (sB2.trans sA3)
    have k3 := kept_same (sB2.trans sA3) k2
    refine ⟨_, rfl, ?_⟩
    refine ⟨_, rfl, a, _, dd, fs, .ref _, _, _, rfl, ex, k3, fun u h => h, kt.own i 14 hi (by decide), ?_⟩
    refine ⟨_, rfl, a, _, dd, fs, .ref _, _, _, rfl, ex, k3, fun u h => h, kt.own i 15 hi (by decide), ?_⟩
    refine ⟨_, rfl, a, _, dd, fs, .ref _, _, _, rfl, ex, k3, fun u h => h, kt.own i 16 hi (by decide), ?_⟩
    refine ⟨_, rfl, a, _, dd, fs, .ref _, _, _, rfl, ex, k3, fun u h => h, kt.own i 17 hi (by decide), ?_⟩
    refine ⟨(by show 4 ≤ 100000; decide), fun HB3 lB3 sB3 _ eB3 => ?_⟩
    refine ⟨lA3, lB3, _, _, rfl, rfl, sB3 _ _ eA3, eB3, (by show 14 + 4 ≤ 100000; decide), fun HA4 lA4 sA4 _ eA4 => ?_⟩
    have T4 := T3.trans (sB3.trans sA4)
    have k4 := kept_same (sB3.trans sA4) k3
    refine ⟨_, rfl, ?_⟩
    refine ⟨_, rfl, a, _, dd, fs, .ref _, _, _, rfl, ex, k4, fun u h => h, kt.own i 18 hi (by decide), ?_⟩
    refine ⟨_, rfl, a, _, dd, fs, .ref _, _, _, rfl, ex, k4, fun u h => h, kt.own i 19 hi (by decide), ?_⟩
    refine ⟨(by show 2 ≤ 100000; decide), fun HB4 lB4 sB4 _ eB4 => ?_⟩
    refine ⟨lA4, lB4, _, _, rfl, rfl, sB4 _ _ eA4, eB4, (by show 18 + 2 ≤ 100000; decide), fun HA5 lA5 sA5 _ eA5 => ?_⟩
    have T5 := T4.trans (sB4.trans sA5)
    have k5 := kept_same (sB4.trans sA5) k4
    exact q _ _ T5 eA5
end
end K01

set_option Elab.async false
set_option linter.all false
set_option maxRecDepth 100000
set_option maxHeartbeats 4000000
namespace K01
open PySem Nb
open L2 hiding del del_ne del_same
theorem famoff : ∀ i, i < 4 → ∀ j, j < len i → off i + j < 20 ∧ fam (off i + j) = i := by decide
theorem offlen : ∀ i, i < 4 → off i + len i = off (i + 1) := by decide
theorem dec_nat (k i : Nat) : decide (V.int (0 + (k : Int)) = V.int (i : Int)) = decide (k = i) := by
  rw [Bool.eq_iff_iff]
  simp
  omega
theorem vals_ty : ∀ (Ts : List String) (us : List Value), Vals (Ts.map V.ty) us → us = Ts.map Value.type
  | [], _, h => by cases h; rfl
  | T :: Ts, _, h => by
    cases h with
    | cons h1 h2 =>
      rw [vals_ty Ts _ h2]
      cases h1
      rfl
def spFam (C : Nat → Addr) : Sp := fun vs H Q _ => ∃ (x : V) (r : Addr) (g e d : Nat → Addr), vs = [.ref r] ∧ Errs C x H r g e d ∧ ∀ H', Same H H' → Q (.bl true) H'
section
variable {P : Program} {w : World} {K : PySem.W.Frag} {mg : Str → Option Value} {base : Heap}
abbrev s_h_families_right : Stmt := topS 31
theorem sc_h_families_right : FnScope ["_law_groups", "_law_at", "_law_spot", "_law_group", "_law_e", "_law_own", "_law_plain", "_law_due", "_law_k"] ["_law_groups"] (defScope s_h_families_right) := ⟨rfl, rfl, rfl, by decide +kernel, rfl, by decide +kernel, by decide +kernel⟩
theorem ok_h_families_right {f : Addr} {fd : FuncData} (F : Fun K "_law_families_right" "_law_families_right" s_h_families_right f fd) {C_BadBases : Addr} {C_BadChange : Addr} {C_BadFuture : Addr} {C_BadIndex : Addr} {C_BadMethod : Addr} {C_BadName : Addr} {C_BadNames : Addr} {C_BadOptions : Addr} {C_BadSteps : Addr} {C_BadText : Addr} {C_BadTuple : Addr} {C_CallError : Addr} {C_Clash : Addr} {C_InUse : Addr} {C_LimitError : Addr} {C_MissingError : Addr} {C_NoClass : Addr} {C_NoMethod : Addr} {C_Taken : Addr} {C_TooMany : Addr} {C_Twice : Addr} {C_Unasked : Addr} {C_Wanted : Addr} {C_WorldError : Addr} (T : Txt mg) (D_h_class_marks : Dn P w K mg base CX0 3 "_law_class_marks" ["_law_e"] (spMarks K (tab [C_BadName, C_BadBases, C_BadMethod, C_BadTuple, C_BadNames, C_BadFuture, C_BadOptions, C_BadIndex, C_BadSteps, C_BadChange, C_BadText, C_TooMany, C_Clash, C_Taken, C_InUse, C_NoClass, C_NoMethod, C_Wanted, C_Twice, C_Unasked]))) (E_BadBases : Er P w K mg base "BadBases" C_BadBases ["reason"]) (E_BadChange : Er P w K mg base "BadChange" C_BadChange ["index"]) (E_BadFuture : Er P w K mg base "BadFuture" C_BadFuture ["reason"]) (E_BadIndex : Er P w K mg base "BadIndex" C_BadIndex ["reason"]) (E_BadMethod : Er P w K mg base "BadMethod" C_BadMethod ["name"]) (E_BadName : Er P w K mg base "BadName" C_BadName ["reason"]) (E_BadNames : Er P w K mg base "BadNames" C_BadNames ["reason"]) (E_BadOptions : Er P w K mg base "BadOptions" C_BadOptions ["reason"]) (E_BadSteps : Er P w K mg base "BadSteps" C_BadSteps ["reason"]) (E_BadText : Er P w K mg base "BadText" C_BadText ["line"]) (E_BadTuple : Er P w K mg base "BadTuple" C_BadTuple ["index"]) (E_Clash : Er P w K mg base "Clash" C_Clash ["name", "tuples", "steps"]) (E_InUse : Er P w K mg base "InUse" C_InUse ["name", "user"]) (E_NoClass : Er P w K mg base "NoClass" C_NoClass ["name"]) (E_NoMethod : Er P w K mg base "NoMethod" C_NoMethod ["name", "method"]) (E_Taken : Er P w K mg base "Taken" C_Taken ["name"]) (E_TooMany : Er P w K mg base "TooMany" C_TooMany ["limit"]) (E_Twice : Er P w K mg base "Twice" C_Twice ["name", "option"]) (E_Unasked : Er P w K mg base "Unasked" C_Unasked ["options"]) (E_Wanted : Er P w K mg base "Wanted" C_Wanted ["name", "option"]) (g_CallError : mg "CallError" = some (.ref C_CallError)) (g_LimitError : mg "LimitError" = some (.ref C_LimitError)) (g_MissingError : mg "MissingError" = some (.ref C_MissingError)) (g_WorldError : mg "WorldError" = some (.ref C_WorldError)) (kt : Kits K (tab [C_BadName, C_BadBases, C_BadMethod, C_BadTuple, C_BadNames, C_BadFuture, C_BadOptions, C_BadIndex, C_BadSteps, C_BadChange, C_BadText, C_TooMany, C_Clash, C_Taken, C_InUse, C_NoClass, C_NoMethod, C_Wanted, C_Twice, C_Unasked]) (tab [C_WorldError, C_LimitError, C_MissingError, C_CallError])) (ex : ∀ n, n < 20 → ExcC K ((tab [C_BadName, C_BadBases, C_BadMethod, C_BadTuple, C_BadNames, C_BadFuture, C_BadOptions, C_BadIndex, C_BadSteps, C_BadChange, C_BadText, C_TooMany, C_Clash, C_Taken, C_InUse, C_NoClass, C_NoMethod, C_Wanted, C_Twice, C_Unasked]) n)) : FnOk P w K mg base CX0 4 f fd ["_law_groups"] (spFam (tab [C_BadName, C_BadBases, C_BadMethod, C_BadTuple, C_BadNames, C_BadFuture, C_BadOptions, C_BadIndex, C_BadSteps, C_BadChange, C_BadText, C_TooMany, C_Clash, C_Taken, C_InUse, C_NoClass, C_NoMethod, C_Wanted, C_Twice, C_Unasked])) := by
  refine F.ok sc_h_families_right (fun vs H Q E h => ?_) (fun cdv A outer s H vs Q E hr h => ?_)
  · obtain ⟨x, r, g, e, d, rfl, _⟩ := h
    rfl
  · obtain ⟨x, r, g, e, d, rfl, er, q⟩ := h
    refine ⟨_, pss_cons (ps_set (i := 1) sc_h_families_right.nd rfl (Or.inr rfl) pe_int)
        (pss_cons (ps_for PassesOwn.never rfl (pi_enum (by rfl) T.enumerate (pa_cons (pv 0) pa_nil)) (pg_tup rfl (pgs_cons (pg_name (i := 2) sc_h_families_right.nd rfl (Or.inr rfl)) (pgs_cons (pg_name (i := 3) sc_h_families_right.nd rfl (Or.inl rfl)) pgs_nil))) (pss_one (ps_for PassesOwn.never rfl (pi_list (pv 3)) (pg_name (i := 4) sc_h_families_right.nd rfl (Or.inl rfl)) (pss_cons (ps_set (i := 5) sc_h_families_right.nd rfl (Or.inl rfl) (pe_lstS (pa_cons (pe_callB call_isK (by rfl) T.isinstance (by decide +kernel) (pa_cons (pv 4) (pa_cons (pe_glob (v := .ref C_WorldError) (by rfl) g_WorldError rfl) pa_nil))) (pa_cons (pe_callB call_isK (by rfl) T.isinstance (by decide +kernel) (pa_cons (pv 4) (pa_cons (pe_glob (v := .ref C_LimitError) (by rfl) g_LimitError rfl) pa_nil))) pa_nil))))
        (pss_cons (ps_set (i := 5) sc_h_families_right.nd rfl (Or.inl rfl) (pe_op op_catS (pv 5) (pe_lstS (pa_cons (pe_callB call_isK (by rfl) T.isinstance (by decide +kernel) (pa_cons (pv 4) (pa_cons (pe_glob (v := .ref C_MissingError) (by rfl) g_MissingError rfl) pa_nil))) (pa_cons (pe_callB call_isK (by rfl) T.isinstance (by decide +kernel) (pa_cons (pv 4) (pa_cons (pe_glob (v := .ref C_CallError) (by rfl) g_CallError rfl) pa_nil))) pa_nil)))))
        (pss_cons (ps_set (i := 6) sc_h_families_right.nd rfl (Or.inl rfl) (pe_lstS (pa_cons (pe_callB call_isK (by rfl) T.isinstance (by decide +kernel) (pa_cons (pv 4) (pa_cons (pe_bltn (v := .ty "ValueError") (by rfl) T.ValueError (by decide +kernel) rfl) pa_nil))) (pa_cons (pe_callB call_isK (by rfl) T.isinstance (by decide +kernel) (pa_cons (pv 4) (pa_cons (pe_bltn (v := .ty "ArithmeticError") (by rfl) T.ArithmeticError (by decide +kernel) rfl) pa_nil))) pa_nil))))
        (pss_cons (ps_set (i := 6) sc_h_families_right.nd rfl (Or.inl rfl) (pe_op op_catS (pv 6) (pe_lstS (pa_cons (pe_callB call_isK (by rfl) T.isinstance (by decide +kernel) (pa_cons (pv 4) (pa_cons (pe_bltn (v := .ty "LookupError") (by rfl) T.LookupError (by decide +kernel) rfl) pa_nil))) (pa_cons (pe_callB call_isK (by rfl) T.isinstance (by decide +kernel) (pa_cons (pv 4) (pa_cons (pe_bltn (v := .ty "RuntimeError") (by rfl) T.RuntimeError (by decide +kernel) rfl) pa_nil))) pa_nil)))))
        (pss_cons (ps_setLc (i := 7) (own := [("_law_k", 8)]) (g := gName 8) (tt := tYes) rfl sc_h_families_right.nd rfl rfl (sw_true rfl rfl rfl (by decide +kernel)) (pi_range1 (by rfl) T.range (pa_cons pe_int pa_nil)) (blkOk_by (N := ["_law_groups", "_law_at", "_law_spot", "_law_group", "_law_e", "_law_own", "_law_plain", "_law_due", "_law_k"]) (sc := (defScope s_h_families_right)) (by decide +kernel)) (fun _ _ _ _ _ => (pg_name (i := 8) sc_h_families_right.nd rfl (Or.inl rfl))) (fun _ _ _ _ _ => pts_nil) (fun _ _ _ _ _ => (pe_cmpR op_eq (pv 8) (pv 2) (nomark _))))
        (pss_cons (ps_if (PW.pt (pw_or (pt_cmpR (op_neBls hr.units) (pv 5) (pv 7) (nomark _)) (pw_or (pt_cmpR (op_neBls hr.units) (pv 6) (pv 7) (nomark _)) (pw_or1 (pt_cmpR (op_neBls hr.units) (pe_D D_h_class_marks (hr.mono (by decide)) (by rfl) pass0 (pa_cons (pv 4) pa_nil)) (pe_lc (own := [("_law_k", 8)]) (g := gName 8) (tt := tYes) rfl sc_h_families_right.nd (pi_range1 (by rfl) T.range (pa_cons pe_int pa_nil)) (blkOk_by (N := ["_law_groups", "_law_at", "_law_spot", "_law_group", "_law_e", "_law_own", "_law_plain", "_law_due", "_law_k"]) (sc := (defScope s_h_families_right)) (by decide +kernel)) (fun _ _ _ _ _ => (pg_name (i := 8) sc_h_families_right.nd rfl (Or.inl rfl))) (fun _ _ _ _ _ => pts_nil) (fun _ _ _ _ _ => (pe_cmpR op_eq (pv 8) (pv 1) (nomark _)))) (nomark _)))))) (pss_one (ps_ret pe_bl)) pss_nil)
        (pss_cons (ps_if (pt_val (pe_callB call_isKt (by rfl) T.isinstance (by decide +kernel) (pa_cons (pv 4) (pa_cons (pe_tupS (pa_cons (pe_bltn (v := .ty "KeyError") (by rfl) T.KeyError (by decide +kernel) rfl) (pa_cons (pe_bltn (v := .ty "IndexError") (by rfl) T.IndexError (by decide +kernel) rfl) (pa_cons (pe_bltn (v := .ty "OverflowError") (by rfl) T.OverflowError (by decide +kernel) rfl) (pa_cons (pe_bltn (v := .ty "ZeroDivisionError") (by rfl) T.ZeroDivisionError (by decide +kernel) rfl) (pa_cons (pe_bltn (v := .ty "TypeError") (by rfl) T.TypeError (by decide +kernel) rfl) pa_nil)))))) pa_nil)))) (pss_one (ps_ret pe_bl)) pss_nil)
        (pss_one (ps_set (i := 1) sc_h_families_right.nd rfl (Or.inr rfl) (pe_op op_add (pv 1) pe_int)))))))))))))
        (pss_one (ps_ret (pe_cmpR op_eq (pv 1) pe_int (nomark _))))), ?_⟩
    refine ⟨_, rfl, r, _, rfl, SqL.of er.1, for_it (walk_enum (K := K) (a := r) (xs := [.ref (g 0), .ref (g 1), .ref (g 2), .ref (g 3)])) (fun i σ H' => ∃ v2 v3 v4 v5 v6 v7, σ = [some (.ref r), some (.int (off i : Nat)), v2, v3, v4, v5, v6, v7, none] ∧ Same H H')
      ⟨_, _, _, _, _, _, rfl, Same.refl _⟩ (fun i σ H' _ ⟨_, _, _, _, _, _, _, s1⟩ => SqL.of (s1 _ _ er.1)) ?_ ?_⟩
    · rintro i y σ H1 H2 hi ⟨v2, v3, v4, v5, v6, v7, rfl, s1⟩ ⟨t, y1, y2, rfl, new, rfl, e1, e2⟩
      have hi : i < 4 := hi
      have ey1 : y1 = .int (i : Nat) := (Option.some.inj e1).symm
      subst ey1
      have ey2 : y2 = .ref (g i) := by
        have e2 : [V.ref (g 0), .ref (g 1), .ref (g 2), .ref (g 3)][i]? = some y2 := e2
        exact all4 (p := fun i => ∀ y2, [V.ref (g 0), .ref (g 1), .ref (g 2), .ref (g 3)][i]? = some y2 → y2 = .ref (g i)) (fun _ h => (Option.some.inj h).symm) (fun _ h => (Option.some.inj h).symm) (fun _ h => (Option.some.inj h).symm) (fun _ h => (Option.some.inj h).symm) i hi y2 e2
      subst ey2
      have s2 := s1.trans (same_new (o := HO.tup [.int (i : Nat), .ref (g i)]) new)
      refine ⟨t, [.int (i : Nat), .ref (g i)], rfl, .inl (.inl upd_same), rfl, .int (i : Nat), [.ref (g i)], rfl, .ref (g i), [], rfl, rfl, ?_⟩
      refine ⟨_, rfl, g i, rfl, ⟨_, SqL.of (s2 _ _ (er.2.1 i hi))⟩, for_list (K := K) (a := g i) (xs := (List.range' (off i) (len i)).map fun j => .ref (e j)) (fun j σ H' => ∃ v4 v5 v6 v7, σ = [some (.ref r), some (.int ((off i + j : Nat))), some (.int (i : Nat)), some (.ref (g i)), v4, v5, v6, v7, none] ∧ Same H H')
        ⟨_, _, _, _, rfl, s2⟩ (fun j σ H' _ ⟨_, _, _, _, _, s3⟩ => SqL.of (s3 _ _ (er.2.1 i hi))) ?_ ?_⟩
      · rintro j y σ H3 hy ⟨w4, w5, w6, w7, rfl, s3⟩
        have hj : j < len i := by
          have := (List.getElem?_eq_some_iff.mp hy).1
          rwa [List.length_map, List.length_range'] at this
        obtain ⟨hn, hf⟩ := famoff i hi j hj
        obtain ⟨n, en⟩ : ∃ n, n = off i + j := ⟨_, rfl⟩
        rw [← en] at hn hf ⊢
        have ey : y = .ref (e n) := by
          rw [List.getElem?_map, List.getElem?_range' hj] at hy
          rw [en]
          simpa using hy.symm
        subst ey
        have ka := kept_same s3 (er.2.2 n hn)
        have kx := ex n hn
        have u0 := Same.refl H3
        refine ⟨_, rfl, _, _, d n, _, .ref _, .ref _, _, rfl, kx, ka, fun u h => h, kt.fam n 0 hn (by decide), ?_⟩
        refine ⟨_, rfl, _, _, d n, _, .ref _, .ref _, _, rfl, kx, ka, fun u h => h, kt.fam n 1 hn (by decide), ?_⟩
        refine ⟨(by show 2 ≤ 100000; decide), fun HA lA sA _ eA => ?_⟩
        have kA := kept_same sA ka
        refine ⟨_, rfl, ?_⟩
        refine ⟨_, rfl, _, _, d n, _, .ref _, .ref _, _, rfl, kx, kA, fun u h => h, kt.fam n 2 hn (by decide), ?_⟩
        refine ⟨_, rfl, _, _, d n, _, .ref _, .ref _, _, rfl, kx, kA, fun u h => h, kt.fam n 3 hn (by decide), ?_⟩
        refine ⟨(by show 2 ≤ 100000; decide), fun HB lB sB _ eB => ?_⟩
        refine ⟨lA, lB, _, _, rfl, rfl, sB _ _ eA, eB, (by show 2 + 2 ≤ 100000; decide), fun HC lC sC _ eC => ?_⟩
        have kC := kept_same (sB.trans sC) kA
        refine ⟨_, rfl, _, _, d n, _, .ty _, .type _, _, rfl, kx, kC, fun u h => h, kt.bas n 0 hn (by decide), ?_⟩
        refine ⟨_, rfl, _, _, d n, _, .ty _, .type _, _, rfl, kx, kC, fun u h => h, kt.bas n 1 hn (by decide), ?_⟩
        refine ⟨(by show 2 ≤ 100000; decide), fun HD lD sD _ eD => ?_⟩
        have kD := kept_same sD kC
        refine ⟨_, rfl, ?_⟩
        refine ⟨_, rfl, _, _, d n, _, .ty _, .type _, _, rfl, kx, kD, fun u h => h, kt.bas n 2 hn (by decide), ?_⟩
        refine ⟨_, rfl, _, _, d n, _, .ty _, .type _, _, rfl, kx, kD, fun u h => h, kt.bas n 3 hn (by decide), ?_⟩
        refine ⟨(by show 2 ≤ 100000; decide), fun HE lE sE _ eE => ?_⟩
        refine ⟨lD, lE, _, _, rfl, rfl, sE _ _ eD, eE, (by show 2 + 2 ≤ 100000; decide), fun HF lF sF _ eF => ?_⟩
        have kF := kept_same (sE.trans sF) kD
        have eC2 := (sD.trans (sE.trans sF)) _ _ eC
        have s4 := s3.trans (sA.trans (sB.trans (sC.trans (sD.trans (sE.trans sF)))))
        refine ⟨4, rfl, by decide, by decide, fun Z hZ => lcM (walk_range (lo := 0) (n := 4)) (fun k => .bl (decide (k = i))) (by decide) hZ (fun _ _ => trivial) ?_ ?_⟩
        · rintro k y H5 H6 Nx hk s5 ⟨rfl, rfl⟩ N
          refine ⟨rfl, _, rfl, _, rfl, rfl, ?_⟩
          rw [dec_nat]
          exact N _ (Same.refl _)
        · intro HG sG eG
          have kG := kept_same sG kF
          refine ⟨_, rfl, _, rfl, lC, Z, marks 4 (fam n), marks 4 i, rfl, rfl, sG _ _ eC2, by rw [eG]; rfl, false, congrArg V.bl (by rw [hf]; simp), iteF ?_⟩
          refine ⟨_, rfl, _, rfl, lF, Z, marks 4 (fam n), marks 4 i, rfl, rfl, sG _ _ eF, by rw [eG]; rfl, false, congrArg V.bl (by rw [hf]; simp), iteF ?_⟩
          refine ⟨_, rfl, _, d n, n, _, rfl, hn, kG, kx, fun HI lI sI eI => ?_⟩
          refine ⟨20, rfl, by decide, by decide, fun Y hY => lcM (walk_range (lo := 0) (n := 20)) (fun k => .bl (decide (k = n))) (by decide) hY (fun _ _ => trivial) ?_ ?_⟩
          · rintro k y H5 H6 Nx hk s5 ⟨rfl, rfl⟩ N
            refine ⟨rfl, _, rfl, _, rfl, rfl, ?_⟩
            rw [dec_nat]
            exact N _ (Same.refl _)
          · intro HJ sJ eJ
            refine ⟨lI, Y, marks 20 n, marks 20 n, rfl, rfl, sJ _ _ eI, by rw [eJ]; rfl, false, congrArg V.bl (by simp), iteF ?_⟩
            have kJ := kept_same (sI.trans sJ) kG
            refine ⟨_, rfl, (by show 5 ≤ 100000; decide), fun HT t2 sT _ eT => ?_⟩
            refine ⟨_, _, d n, t2, _, oth.map V.ty, _, _, rfl, kx, kept_same sT kJ, SqT.of eT, vals_ty oth, kt.oth n hn, _, rfl, iteF ?_⟩
            refine ⟨_, rfl, _, _, rfl, rfl, ?_⟩
            refine ⟨some (.ref (e n)), some (.ref lC), some (.ref lF), some (.ref Z), ?_, s4.trans (sG.trans (sI.trans (sJ.trans sT)))⟩
            rw [show off i + (j + 1) = n + 1 by omega]
            rfl
      · rintro σ H3 ⟨w4, w5, w6, w7, rfl, s3⟩
        refine ⟨some (.int (i : Nat)), some (.ref (g i)), w4, w5, w6, w7, ?_, s3⟩
        rw [List.length_map, List.length_range', offlen i hi]
    · rintro σ H1 ⟨v2, v3, v4, v5, v6, v7, rfl, s1⟩
      refine ⟨_, rfl, rfl, ?_⟩
      exact q H1 s1
end
end K01

set_option Elab.async false
set_option linter.all false
set_option maxRecDepth 100000
set_option maxHeartbeats 4000000
namespace K01
open PySem Nb
open L2 hiding del del_ne del_same
def Xd (d : PyData) : Prop := (PyData.list (List.replicate 20 d)).showable = true ∧ (PyData.list (List.replicate 20 d)).depth ≤ 60 ∧ (PyData.list (List.replicate 20 d)).shown.length ≤ sizeLine
def spFields (C : Nat → Addr) : Sp := fun vs H Q _ => ∃ (x : V) (dx : PyData) (r : Addr) (g e d : Nat → Addr), vs = [.ref r, x] ∧ Errs C x H r g e d ∧ One H x dx ∧ Xd dx ∧ ∀ H', Same H H' → Q (.bl true) H'
theorem xd8 : Xd .none ∧ Xd (.int 5) ∧ Xd (.str "a") ∧ Xd (.tuple [.str "a", .str "b"]) ∧ Xd (.list [.str "a"]) ∧ Xd (.dict []) ∧ Xd (.bool true) ∧ Xd (.str "") := by
  refine ⟨⟨?_, ?_, ?_⟩, ⟨?_, ?_, ?_⟩, ⟨?_, ?_, ?_⟩, ⟨?_, ?_, ?_⟩, ⟨?_, ?_, ?_⟩, ⟨?_, ?_, ?_⟩, ⟨?_, ?_, ?_⟩, ⟨?_, ?_, ?_⟩⟩ <;> decide +kernel
section
variable {P : Program} {w : World} {K : PySem.W.Frag} {mg : Str → Option Value} {base : Heap}
abbrev s_h_fields_right : Stmt := topS 32
theorem sc_h_fields_right : FnScope ["_law_groups", "_law_x", "_law_a", "_law_b", "_law_c", "_law_d", "_law_found", "_law_others"] ["_law_groups", "_law_x"] (defScope s_h_fields_right) := ⟨rfl, rfl, rfl, by decide +kernel, rfl, by decide +kernel, by decide +kernel⟩
theorem len_h_fields_right (vs : List V) (H : Hp) (Q : VK) (E : XK) (h : (spFields (tab [C_BadName, C_BadBases, C_BadMethod, C_BadTuple, C_BadNames, C_BadFuture, C_BadOptions, C_BadIndex, C_BadSteps, C_BadChange, C_BadText, C_TooMany, C_Clash, C_Taken, C_InUse, C_NoClass, C_NoMethod, C_Wanted, C_Twice, C_Unasked]) : Sp) vs H Q E) : vs.length = 2 := by
  obtain ⟨x, dx, r, g, e, d, rfl, _⟩ := h
  rfl
theorem ok_h_fields_right {f : Addr} {fd : FuncData} (F : Fun K "_law_fields_right" "_law_fields_right" s_h_fields_right f fd) {C_BadBases : Addr} {C_BadChange : Addr} {C_BadFuture : Addr} {C_BadIndex : Addr} {C_BadMethod : Addr} {C_BadName : Addr} {C_BadNames : Addr} {C_BadOptions : Addr} {C_BadSteps : Addr} {C_BadText : Addr} {C_BadTuple : Addr} {C_Clash : Addr} {C_InUse : Addr} {C_NoClass : Addr} {C_NoMethod : Addr} {C_Taken : Addr} {C_TooMany : Addr} {C_Twice : Addr} {C_Unasked : Addr} {C_Wanted : Addr} (T : Txt mg) (E_BadBases : Er P w K mg base "BadBases" C_BadBases ["reason"]) (E_BadChange : Er P w K mg base "BadChange" C_BadChange ["index"]) (E_BadFuture : Er P w K mg base "BadFuture" C_BadFuture ["reason"]) (E_BadIndex : Er P w K mg base "BadIndex" C_BadIndex ["reason"]) (E_BadMethod : Er P w K mg base "BadMethod" C_BadMethod ["name"]) (E_BadName : Er P w K mg base "BadName" C_BadName ["reason"]) (E_BadNames : Er P w K mg base "BadNames" C_BadNames ["reason"]) (E_BadOptions : Er P w K mg base "BadOptions" C_BadOptions ["reason"]) (E_BadSteps : Er P w K mg base "BadSteps" C_BadSteps ["reason"]) (E_BadText : Er P w K mg base "BadText" C_BadText ["line"]) (E_BadTuple : Er P w K mg base "BadTuple" C_BadTuple ["index"]) (E_Clash : Er P w K mg base "Clash" C_Clash ["name", "tuples", "steps"]) (E_InUse : Er P w K mg base "InUse" C_InUse ["name", "user"]) (E_NoClass : Er P w K mg base "NoClass" C_NoClass ["name"]) (E_NoMethod : Er P w K mg base "NoMethod" C_NoMethod ["name", "method"]) (E_Taken : Er P w K mg base "Taken" C_Taken ["name"]) (E_TooMany : Er P w K mg base "TooMany" C_TooMany ["limit"]) (E_Twice : Er P w K mg base "Twice" C_Twice ["name", "option"]) (E_Unasked : Er P w K mg base "Unasked" C_Unasked ["options"]) (E_Wanted : Er P w K mg base "Wanted" C_Wanted ["name", "option"]) : RunsG P w K mg base CX0 1 f fd ["_law_groups", "_law_x"] (spFields (tab [C_BadName, C_BadBases, C_BadMethod, C_BadTuple, C_BadNames, C_BadFuture, C_BadOptions, C_BadIndex, C_BadSteps, C_BadChange, C_BadText, C_TooMany, C_Clash, C_Taken, C_InUse, C_NoClass, C_NoMethod, C_Wanted, C_Twice, C_Unasked])) := by
  refine okG F sc_h_fields_right (fun vs H Q E h => ?_) (fun cdv A outer s H vs Q E gd hr h => ?_)
  · obtain ⟨x, dx, r, g, e, d, rfl, _⟩ := h
    rfl
  · obtain ⟨x, dx, r, g, e, d, rfl, er, hx, xd, q⟩ := h
    have hg : (A.deeper (PyProof.Rows.envOfC "_law_fields_right" (defScope s_h_fields_right) s.heap.objs.size f cdv)).guards = some [] := gd
    refine ⟨_, pss_cons (ps_asg (pv 0) (pg_unl rfl (pgs_cons (pg_name (i := 2) sc_h_fields_right.nd rfl (Or.inl rfl)) (pgs_cons (pg_name (i := 3) sc_h_fields_right.nd rfl (Or.inl rfl)) (pgs_cons (pg_name (i := 4) sc_h_fields_right.nd rfl (Or.inl rfl)) (pgs_cons (pg_name (i := 5) sc_h_fields_right.nd rfl (Or.inl rfl)) pgs_nil))))))
        (pss_cons (ps_set (i := 6) sc_h_fields_right.nd rfl (Or.inl rfl) (pe_lstS (pa_cons (pe_kf (pe_ix ix_list (pv 2) pe_int (fun _ _ => rfl))) (pa_cons (pe_kf (pe_ix ix_list (pv 2) pe_int (fun _ _ => rfl))) (pa_cons (pe_kf (pe_ix ix_list (pv 2) pe_int (fun _ _ => rfl))) (pa_cons (pe_kf (pe_ix ix_list (pv 2) pe_int (fun _ _ => rfl))) (pa_cons (pe_kf (pe_ix ix_list (pv 2) pe_int (fun _ _ => rfl))) (pa_cons (pe_kf (pe_ix ix_list (pv 2) pe_int (fun _ _ => rfl))) (pa_cons (pe_kf (pe_ix ix_list (pv 2) pe_int (fun _ _ => rfl))) (pa_cons (pe_kf (pe_ix ix_list (pv 2) pe_int (fun _ _ => rfl))) pa_nil))))))))))
        (pss_cons (ps_set (i := 6) sc_h_fields_right.nd rfl (Or.inl rfl) (pe_op op_catS (pv 6) (pe_lstS (pa_cons (pe_kf (pe_ix ix_list (pv 2) pe_int (fun _ _ => rfl))) (pa_cons (pe_kf (pe_ix ix_list (pv 2) pe_int (fun _ _ => rfl))) (pa_cons (pe_kf (pe_ix ix_list (pv 2) pe_int (fun _ _ => rfl))) (pa_cons (pe_kf (pe_ix ix_list (pv 3) pe_int (fun _ _ => rfl))) (pa_cons (pe_kf (pe_ix ix_list (pv 3) pe_int (fun _ _ => rfl))) (pa_cons (pe_kf (pe_ix ix_list (pv 3) pe_int (fun _ _ => rfl))) (pa_cons (pe_kf (pe_ix ix_list (pv 3) pe_int (fun _ _ => rfl))) (pa_cons (pe_kf (pe_ix ix_list (pv 4) pe_int (fun _ _ => rfl))) pa_nil)))))))))))
        (pss_cons (ps_set (i := 6) sc_h_fields_right.nd rfl (Or.inl rfl) (pe_op op_catS (pv 6) (pe_lstS (pa_cons (pe_kf (pe_ix ix_list (pv 4) pe_int (fun _ _ => rfl))) (pa_cons (pe_kf (pe_ix ix_list (pv 5) pe_int (fun _ _ => rfl))) (pa_cons (pe_kf (pe_ix ix_list (pv 5) pe_int (fun _ _ => rfl))) (pa_cons (pe_kf (pe_ix ix_list (pv 5) pe_int (fun _ _ => rfl))) pa_nil)))))))
        (pss_cons (ps_set (i := 7) sc_h_fields_right.nd rfl (Or.inl rfl) (pe_lstS (pa_cons (pe_kf (pe_ix ix_list (pv 3) pe_int (fun _ _ => rfl))) (pa_cons (pe_kf (pe_ix ix_list (pv 3) pe_int (fun _ _ => rfl))) (pa_cons (pe_kf (pe_ix ix_list (pv 3) pe_int (fun _ _ => rfl))) (pa_cons (pe_kf (pe_ix ix_list (pv 4) pe_int (fun _ _ => rfl))) (pa_cons (pe_kf (pe_ix ix_list (pv 5) pe_int (fun _ _ => rfl))) (pa_cons (pe_kf (pe_ix ix_list (pv 5) pe_int (fun _ _ => rfl))) pa_nil))))))))
        (pss_one (ps_ret (pe_and (pe_cmpR op_eq (pe_callB (cr_reprRep hg (un100 hr)) (by rfl) T.repr (by decide +kernel) (pa_cons (pv 6) pa_nil)) (pe_callB (cr_reprRep hg (un100 hr)) (by rfl) T.repr (by decide +kernel) (pa_cons (pe_op op_repS (pe_lstS (pa_cons (pv 1) pa_nil)) pe_int) pa_nil)) (nomark _)) (pe_one (pe_cmpR (op_eqInts hr.units) (pv 7) (pe_lstS (pa_cons pe_int (pa_cons pe_int (pa_cons pe_int (pa_cons pe_int (pa_cons pe_int (pa_cons pe_int pa_nil))))))) (nomark _)))))))))), ?_⟩
    refine ⟨_, rfl, r, _, rfl, SqL.of er.1, rfl, .ref (g 0), _, rfl, .ref (g 1), _, rfl, .ref (g 2), _, rfl, .ref (g 3), [], rfl, rfl, ?_⟩
    refine ⟨_, rfl, g 0, _, _, .ref (e 0), rfl, rfl, SqL.of (er.2.1 0 (by decide)), atI_nat (j := 0) rfl, e 0, _, d 0, _, _, rfl, E_BadName.xf, E_BadName.no "reason" (by simp), er.2.2 0 (by decide), rfl, ?_⟩
    refine ⟨_, rfl, g 0, _, _, .ref (e 1), rfl, rfl, SqL.of (er.2.1 0 (by decide)), atI_nat (j := 1) rfl, e 1, _, d 1, _, _, rfl, E_BadBases.xf, E_BadBases.no "reason" (by simp), er.2.2 1 (by decide), rfl, ?_⟩
    refine ⟨_, rfl, g 0, _, _, .ref (e 2), rfl, rfl, SqL.of (er.2.1 0 (by decide)), atI_nat (j := 2) rfl, e 2, _, d 2, _, _, rfl, E_BadMethod.xf, E_BadMethod.no "name" (by simp), er.2.2 2 (by decide), rfl, ?_⟩
    refine ⟨_, rfl, g 0, _, _, .ref (e 3), rfl, rfl, SqL.of (er.2.1 0 (by decide)), atI_nat (j := 3) rfl, e 3, _, d 3, _, _, rfl, E_BadTuple.xf, E_BadTuple.no "index" (by simp), er.2.2 3 (by decide), rfl, ?_⟩
    refine ⟨_, rfl, g 0, _, _, .ref (e 4), rfl, rfl, SqL.of (er.2.1 0 (by decide)), atI_nat (j := 4) rfl, e 4, _, d 4, _, _, rfl, E_BadNames.xf, E_BadNames.no "reason" (by simp), er.2.2 4 (by decide), rfl, ?_⟩
    refine ⟨_, rfl, g 0, _, _, .ref (e 5), rfl, rfl, SqL.of (er.2.1 0 (by decide)), atI_nat (j := 5) rfl, e 5, _, d 5, _, _, rfl, E_BadFuture.xf, E_BadFuture.no "reason" (by simp), er.2.2 5 (by decide), rfl, ?_⟩
    refine ⟨_, rfl, g 0, _, _, .ref (e 6), rfl, rfl, SqL.of (er.2.1 0 (by decide)), atI_nat (j := 6) rfl, e 6, _, d 6, _, _, rfl, E_BadOptions.xf, E_BadOptions.no "reason" (by simp), er.2.2 6 (by decide), rfl, ?_⟩
    refine ⟨_, rfl, g 0, _, _, .ref (e 7), rfl, rfl, SqL.of (er.2.1 0 (by decide)), atI_nat (j := 7) rfl, e 7, _, d 7, _, _, rfl, E_BadIndex.xf, E_BadIndex.no "reason" (by simp), er.2.2 7 (by decide), rfl, ?_⟩
    refine ⟨(by show 8 ≤ 100000; decide), fun HA lA sA _ eA => ?_⟩
    have erA := errs_same sA er
    refine ⟨_, rfl, ?_⟩
    refine ⟨_, rfl, g 0, _, _, .ref (e 8), rfl, rfl, SqL.of (erA.2.1 0 (by decide)), atI_nat (j := 8) rfl, e 8, _, d 8, _, _, rfl, E_BadSteps.xf, E_BadSteps.no "reason" (by simp), erA.2.2 8 (by decide), rfl, ?_⟩
    refine ⟨_, rfl, g 0, _, _, .ref (e 9), rfl, rfl, SqL.of (erA.2.1 0 (by decide)), atI_nat (j := 9) rfl, e 9, _, d 9, _, _, rfl, E_BadChange.xf, E_BadChange.no "index" (by simp), erA.2.2 9 (by decide), rfl, ?_⟩
    refine ⟨_, rfl, g 0, _, _, .ref (e 10), rfl, rfl, SqL.of (erA.2.1 0 (by decide)), atI_nat (j := 10) rfl, e 10, _, d 10, _, _, rfl, E_BadText.xf, E_BadText.no "line" (by simp), erA.2.2 10 (by decide), rfl, ?_⟩
    refine ⟨_, rfl, g 1, _, _, .ref (e 11), rfl, rfl, SqL.of (erA.2.1 1 (by decide)), atI_nat (j := 0) rfl, e 11, _, d 11, _, _, rfl, E_TooMany.xf, E_TooMany.no "limit" (by simp), erA.2.2 11 (by decide), rfl, ?_⟩
    refine ⟨_, rfl, g 1, _, _, .ref (e 12), rfl, rfl, SqL.of (erA.2.1 1 (by decide)), atI_nat (j := 1) rfl, e 12, _, d 12, _, _, rfl, E_Clash.xf, E_Clash.no "name" (by simp), erA.2.2 12 (by decide), rfl, ?_⟩
    refine ⟨_, rfl, g 1, _, _, .ref (e 13), rfl, rfl, SqL.of (erA.2.1 1 (by decide)), atI_nat (j := 2) rfl, e 13, _, d 13, _, _, rfl, E_Taken.xf, E_Taken.no "name" (by simp), erA.2.2 13 (by decide), rfl, ?_⟩
    refine ⟨_, rfl, g 1, _, _, .ref (e 14), rfl, rfl, SqL.of (erA.2.1 1 (by decide)), atI_nat (j := 3) rfl, e 14, _, d 14, _, _, rfl, E_InUse.xf, E_InUse.no "name" (by simp), erA.2.2 14 (by decide), rfl, ?_⟩
    refine ⟨_, rfl, g 2, _, _, .ref (e 15), rfl, rfl, SqL.of (erA.2.1 2 (by decide)), atI_nat (j := 0) rfl, e 15, _, d 15, _, _, rfl, E_NoClass.xf, E_NoClass.no "name" (by simp), erA.2.2 15 (by decide), rfl, ?_⟩
    refine ⟨(by show 8 ≤ 100000; decide), fun HB lB sB _ eB => ?_⟩
    refine ⟨lA, lB, _, _, rfl, rfl, sB _ _ eA, eB, (by show 8 + 8 ≤ 100000; decide), fun HC lC sC _ eC => ?_⟩
    have erC := errs_same (sB.trans sC) erA
    refine ⟨_, rfl, ?_⟩
    refine ⟨_, rfl, g 2, _, _, .ref (e 16), rfl, rfl, SqL.of (erC.2.1 2 (by decide)), atI_nat (j := 1) rfl, e 16, _, d 16, _, _, rfl, E_NoMethod.xf, E_NoMethod.no "name" (by simp), erC.2.2 16 (by decide), rfl, ?_⟩
    refine ⟨_, rfl, g 3, _, _, .ref (e 17), rfl, rfl, SqL.of (erC.2.1 3 (by decide)), atI_nat (j := 0) rfl, e 17, _, d 17, _, _, rfl, E_Wanted.xf, E_Wanted.no "name" (by simp), erC.2.2 17 (by decide), rfl, ?_⟩
    refine ⟨_, rfl, g 3, _, _, .ref (e 18), rfl, rfl, SqL.of (erC.2.1 3 (by decide)), atI_nat (j := 1) rfl, e 18, _, d 18, _, _, rfl, E_Twice.xf, E_Twice.no "name" (by simp), erC.2.2 18 (by decide), rfl, ?_⟩
    refine ⟨_, rfl, g 3, _, _, .ref (e 19), rfl, rfl, SqL.of (erC.2.1 3 (by decide)), atI_nat (j := 2) rfl, e 19, _, d 19, _, _, rfl, E_Unasked.xf, E_Unasked.no "options" (by simp), erC.2.2 19 (by decide), rfl, ?_⟩
    refine ⟨(by show 4 ≤ 100000; decide), fun HD lD sD _ eD => ?_⟩
    refine ⟨lC, lD, _, _, rfl, rfl, sD _ _ eC, eD, (by show 16 + 4 ≤ 100000; decide), fun HE lE sE _ eE => ?_⟩
    have erE := errs_same (sD.trans sE) erC
    refine ⟨_, rfl, g 1, _, _, .ref (e 12), rfl, rfl, SqL.of (erE.2.1 1 (by decide)), atI_nat (j := 1) rfl, e 12, _, d 12, _, _, rfl, E_Clash.xf, E_Clash.no "tuples" (by simp), erE.2.2 12 (by decide), rfl, ?_⟩
    refine ⟨_, rfl, g 1, _, _, .ref (e 12), rfl, rfl, SqL.of (erE.2.1 1 (by decide)), atI_nat (j := 1) rfl, e 12, _, d 12, _, _, rfl, E_Clash.xf, E_Clash.no "steps" (by simp), erE.2.2 12 (by decide), rfl, ?_⟩
    refine ⟨_, rfl, g 1, _, _, .ref (e 14), rfl, rfl, SqL.of (erE.2.1 1 (by decide)), atI_nat (j := 3) rfl, e 14, _, d 14, _, _, rfl, E_InUse.xf, E_InUse.no "user" (by simp), erE.2.2 14 (by decide), rfl, ?_⟩
    refine ⟨_, rfl, g 2, _, _, .ref (e 16), rfl, rfl, SqL.of (erE.2.1 2 (by decide)), atI_nat (j := 1) rfl, e 16, _, d 16, _, _, rfl, E_NoMethod.xf, E_NoMethod.no "method" (by simp), erE.2.2 16 (by decide), rfl, ?_⟩
    refine ⟨_, rfl, g 3, _, _, .ref (e 17), rfl, rfl, SqL.of (erE.2.1 3 (by decide)), atI_nat (j := 0) rfl, e 17, _, d 17, _, _, rfl, E_Wanted.xf, E_Wanted.no "option" (by simp), erE.2.2 17 (by decide), rfl, ?_⟩
    refine ⟨_, rfl, g 3, _, _, .ref (e 18), rfl, rfl, SqL.of (erE.2.1 3 (by decide)), atI_nat (j := 1) rfl, e 18, _, d 18, _, _, rfl, E_Twice.xf, E_Twice.no "option" (by simp), erE.2.2 18 (by decide), rfl, ?_⟩
    refine ⟨(by show 6 ≤ 100000; decide), fun HF lF sF _ eF => ?_⟩
    have sx := sA.trans ((sB.trans sC).trans ((sD.trans sE).trans sF))
    have ll : HF lE = some (.lst (List.replicate 20 x)) := sF _ _ eE
    refine ⟨_, rfl, lE, x, 20, dx, rfl, ll, one_same sx hx, xd.1, xd.2.1, xd.2.2, ?_⟩
    refine ⟨_, rfl, (by show 1 ≤ 100000; decide), fun HG lG sG _ eG => ?_⟩
    refine ⟨lG, 20, [x], rfl, rfl, eG, by decide, (by show 1 * 20 ≤ 100000; decide), fun HI lI sI _ eI => ?_⟩
    refine ⟨lI, x, 20, dx, rfl, eI, one_same (sx.trans (sG.trans sI)) hx, xd.1, xd.2.1, xd.2.2, ?_⟩
    refine ⟨rfl, true, congrArg V.bl (decide_eq_true rfl), ?_⟩
    refine ⟨_, rfl, (by show 6 ≤ 100000; decide), fun HJ lJ sJ _ eJ => ?_⟩
    refine ⟨lF, lJ, [1, 2, 3, 4, 5, 6], [1, 2, 3, 4, 5, 6], rfl, rfl, (sG.trans (sI.trans sJ)) _ _ eF, eJ, ?_⟩
    exact q HJ (sx.trans (sG.trans (sI.trans sJ)))
abbrev s_law : Stmt := topS 33
theorem sc_law : FnScope ["_law_script", "_law_source_here", "_law_turn", "_law_x", "_law_groups"] ["_law_script"] (defScope s_law) := ⟨rfl, rfl, rfl, by decide +kernel, rfl, by decide +kernel, by decide +kernel⟩
theorem len_law (vs : List V) (H : Hp) (Q : VK) (E : XK) (h : (spLaw0 K : Sp) vs H Q E) : vs.length = 1 := by
  obtain ⟨a, ns, rfl, _⟩ := h
  rfl
theorem ok_law {f : Addr} {fd : FuncData} (F : Fun K "law" "law" s_law f fd) {C_BadBases : Addr} {C_BadChange : Addr} {C_BadFuture : Addr} {C_BadIndex : Addr} {C_BadMethod : Addr} {C_BadName : Addr} {C_BadNames : Addr} {C_BadOptions : Addr} {C_BadSteps : Addr} {C_BadText : Addr} {C_BadTuple : Addr} {C_Clash : Addr} {C_InUse : Addr} {C_NoClass : Addr} {C_NoMethod : Addr} {C_Taken : Addr} {C_TooMany : Addr} {C_Twice : Addr} {C_Unasked : Addr} {C_Wanted : Addr} (T : Txt mg) (D_h_source : Dn P w K mg base CX0 1 "_law_source" ["_law_script", "_law_k"] (spSource K)) (D_h_pick : Dn P w K mg base CX0 2 "_law_pick" ["_law_source_here", "_law_items"] (spPick)) (D_h_made_errors : Dn P w K mg base CX0 3 "_law_made_errors" ["_law_x"] (spMade (tab [C_BadName, C_BadBases, C_BadMethod, C_BadTuple, C_BadNames, C_BadFuture, C_BadOptions, C_BadIndex, C_BadSteps, C_BadChange, C_BadText, C_TooMany, C_Clash, C_Taken, C_InUse, C_NoClass, C_NoMethod, C_Wanted, C_Twice, C_Unasked]))) (D_h_families_right : Dn P w K mg base CX0 4 "_law_families_right" ["_law_groups"] (spFam (tab [C_BadName, C_BadBases, C_BadMethod, C_BadTuple, C_BadNames, C_BadFuture, C_BadOptions, C_BadIndex, C_BadSteps, C_BadChange, C_BadText, C_TooMany, C_Clash, C_Taken, C_InUse, C_NoClass, C_NoMethod, C_Wanted, C_Twice, C_Unasked]))) (D_h_fields_right : DnG P w K mg base CX0 1 "_law_fields_right" ["_law_groups", "_law_x"] (spFields (tab [C_BadName, C_BadBases, C_BadMethod, C_BadTuple, C_BadNames, C_BadFuture, C_BadOptions, C_BadIndex, C_BadSteps, C_BadChange, C_BadText, C_TooMany, C_Clash, C_Taken, C_InUse, C_NoClass, C_NoMethod, C_Wanted, C_Twice, C_Unasked]))) : RunsG P w K mg base CX0 5 f fd ["_law_script"] (spLaw0 K) := by
  refine okG F sc_law (fun vs H Q E h => ?_) (fun cdv A outer s H vs Q E gd hr h => ?_)
  · obtain ⟨a, ns, rfl, _⟩ := h
    rfl
  · obtain ⟨a, ns, rfl, hS, hlen, q⟩ := h
    have hg : (A.deeper (PyProof.Rows.envOfC "law" (defScope s_law) s.heap.objs.size f cdv)).guards = some [] := gd
    refine ⟨_, pss_cons (ps_set (i := 1) sc_law.nd rfl (Or.inl rfl) (pe_D D_h_source (hr.mono (by decide)) (by rfl) pass0 (pa_cons (pv 0) (pa_cons pe_int pa_nil))))
        (pss_cons (ps_for PassesOwn.never rfl (pi_range1 (by rfl) T.range (pa_cons pe_int pa_nil)) (pg_name (i := 2) sc_law.nd rfl (Or.inl rfl)) (pss_cons (ps_set (i := 3) sc_law.nd rfl (Or.inl rfl) (pe_D D_h_pick (hr.mono (by decide)) (by rfl) pass0 (pa_cons (pv 1) (pa_cons (pe_lstS (pa_cons pe_non (pa_cons pe_int (pa_cons pe_str (pa_cons (pe_tupS (pa_cons pe_str (pa_cons pe_str pa_nil))) (pa_cons (pe_lstS (pa_cons pe_str pa_nil)) (pa_cons pe_dnewS (pa_cons pe_bl (pa_cons pe_str pa_nil))))))))) pa_nil))))
        (pss_cons (ps_set (i := 4) sc_law.nd rfl (Or.inl rfl) (pe_D D_h_made_errors (hr.mono (by decide)) (by rfl) pass0 (pa_cons (pv 3) pa_nil)))
        (pss_one (ps_if (PW.pt (pw_or (pt_not (pt_val (pe_D D_h_families_right (hr.mono (by decide)) (by rfl) pass0 (pa_cons (pv 4) pa_nil)))) (pw_or1 (pt_not (pt_val (pe_DG D_h_fields_right hg (hr.mono (by decide)) (by rfl) pass0 (pa_cons (pv 4) (pa_cons (pv 3) pa_nil)))))))) (pss_one (ps_ret pe_bl)) pss_nil)))))
        (pss_one (ps_ret pe_bl))), ?_⟩
    refine ⟨_, rfl, a, ns, 0, rfl, hS, hlen, by decide, fun H1 p s1 np S1 => ?_⟩
    refine ⟨3, rfl, by decide, by decide, for_range (lo := 0) (n := 3) (fun i σ H' => ∃ v2 v3 v4, σ = [some (.ref a), some (.ref p), v2, v3, v4] ∧ Src H' p i) ⟨_, _, _, rfl, S1⟩ ?_ ?_⟩
    · rintro i σ H2 hi ⟨v2, v3, v4, rfl, S2⟩
      refine ⟨_, rfl, (by show 2 ≤ 100000; decide), fun HA t sA nA eA => ?_⟩
      refine ⟨(by show 1 ≤ 100000; decide), fun HB l sB nB eB => ?_⟩
      refine fun HC d sC nC eC => ?_
      refine ⟨(by show 8 ≤ 100000; decide), fun HD L sD nD eD => ?_⟩
      have SA := S2.same sA
      have SB := SA.same sB
      have SC := SB.same sC
      have SD := SC.same sD
      have wt := src_away S2 nA
      have wl := src_away SA nB
      have wd := src_away SB nC
      have wL := src_away SC nD
      refine ⟨p, L, _, i, Nb.del HD p, rfl, del_keep eD wL, (by show 1 ≤ 8; decide), (by show 8 ≤ 1000; decide), SD, by omega, del_at, del_same, fun HE x hx sE SE => ?_⟩
      have et := sE _ _ (del_keep ((sB.trans (sC.trans sD)) _ _ eA) wt)
      have el := sE _ _ (del_keep ((sC.trans sD) _ _ eB) wl)
      have ed := sE _ _ (del_keep (sD _ _ eC) wd)
      obtain ⟨dx, hz, xd⟩ : ∃ dx, One HE x dx ∧ Xd dx := by
        obtain ⟨d1, d2, d3, d4, d5, d6, d7, d8⟩ := xd8
        simp only [List.mem_cons, List.not_mem_nil, or_false] at hx
        rcases hx with rfl | rfl | rfl | rfl | rfl | rfl | rfl | rfl
        · exact ⟨_, .inl ⟨.non, rfl⟩, d1⟩
        · exact ⟨_, .inl ⟨.int _, rfl⟩, d2⟩
        · exact ⟨_, .inl ⟨.str _, rfl⟩, d3⟩
        · exact ⟨_, .inl ⟨.tup et (.cons (.str _) (.cons (.str _) .nil)), rfl⟩, d4⟩
        · exact ⟨_, .inl ⟨.lst el (.cons (.str _) .nil), rfl⟩, d5⟩
        · exact ⟨_, .inr ⟨rfl, d, rfl, ed⟩, d6⟩
        · exact ⟨_, .inl ⟨.bl _, rfl⟩, d7⟩
        · exact ⟨_, .inl ⟨.str _, rfl⟩, d8⟩
      refine ⟨_, rfl, x, rfl, fun HF r g e d sF er => ?_⟩
      refine ⟨_, rfl, x, r, g, e, d, rfl, er, fun HG sG => ?_⟩
      refine ⟨_, rfl, iteF ?_⟩
      refine ⟨_, rfl, _, rfl, x, dx, r, g, e, d, rfl, errs_same sG er, one_same (sF.trans sG) hz, xd, fun HH sH => ?_⟩
      refine ⟨_, rfl, iteF ?_⟩
      exact ⟨_, _, _, rfl, SE.same (sF.trans (sG.trans sH))⟩
    · rintro σ H2 ⟨v2, v3, v4, rfl, S2⟩
      exact q H2
end
end K01

set_option Elab.async false
set_option maxRecDepth 100000
set_option maxHeartbeats 8000000
namespace K01
open PySem Nb
open L2 hiding del del_ne del_same
theorem all_mk {l : PySem.W.OpenLaw} {w : World} {K : PySem.W.Frag} {h : Heap} {mg : Str → Option Value} {fa f_law f_h_source f_h_next f_h_pick f_h_made_errors f_h_class_marks f_h_families_right f_h_fields_right C_BadName C_BadBases C_BadMethod C_BadTuple C_BadNames C_BadFuture C_BadOptions C_BadIndex C_BadSteps C_BadChange C_BadText C_TooMany C_Clash C_Taken C_InUse C_NoClass C_NoMethod C_Wanted C_Twice C_Unasked i_BadName i_BadBases i_BadMethod i_BadTuple i_BadNames i_BadFuture i_BadOptions i_BadIndex i_BadSteps i_BadChange i_BadText i_TooMany i_Clash i_Taken i_InUse i_NoClass i_NoMethod i_Wanted i_Twice i_Unasked C_WorldError C_LimitError C_MissingError C_CallError : Addr} (X : K.In h) (G : h.Ns mainGlobals mg) (hfa : mg "law" = some (.ref fa))
    {odh_source anh_source odh_next anh_next odh_pick anh_pick odh_made_errors anh_made_errors odh_class_marks anh_class_marks odh_families_right anh_families_right odh_fields_right anh_fields_right odlaw anlaw odIBadName anIBadName odIBadBases anIBadBases odIBadMethod anIBadMethod odIBadTuple anIBadTuple odIBadNames anIBadNames odIBadFuture anIBadFuture odIBadOptions anIBadOptions odIBadIndex anIBadIndex odIBadSteps anIBadSteps odIBadChange anIBadChange odIBadText anIBadText odITooMany anITooMany odIClash anIClash odITaken anITaken odIInUse anIInUse odINoClass anINoClass odINoMethod anINoMethod odIWanted anIWanted odITwice anITwice odIUnasked anIUnasked : Option Addr}
    {slh_source slh_next slh_pick slh_made_errors slh_class_marks slh_families_right slh_fields_right sllaw slIBadName slIBadBases slIBadMethod slIBadTuple slIBadNames slIBadFuture slIBadOptions slIBadIndex slIBadSteps slIBadChange slIBadText slITooMany slIClash slITaken slIInUse slINoClass slINoMethod slIWanted slITwice slIUnasked : Array (Option Value)}
    {och_source kVh_source dch_source pmh_source cdh_source cth_source och_next kVh_next dch_next pmh_next cdh_next cth_next och_pick kVh_pick dch_pick pmh_pick cdh_pick cth_pick och_made_errors kVh_made_errors dch_made_errors pmh_made_errors cdh_made_errors cth_made_errors och_class_marks kVh_class_marks dch_class_marks pmh_class_marks cdh_class_marks cth_class_marks och_families_right kVh_families_right dch_families_right pmh_families_right cdh_families_right cth_families_right och_fields_right kVh_fields_right dch_fields_right pmh_fields_right cdh_fields_right cth_fields_right oclaw kVlaw dclaw pmlaw cdlaw ctlaw ocIBadName kVIBadName dcIBadName pmIBadName cdIBadName ctIBadName ocIBadBases kVIBadBases dcIBadBases pmIBadBases cdIBadBases ctIBadBases ocIBadMethod kVIBadMethod dcIBadMethod pmIBadMethod cdIBadMethod ctIBadMethod ocIBadTuple kVIBadTuple dcIBadTuple pmIBadTuple cdIBadTuple ctIBadTuple ocIBadNames kVIBadNames dcIBadNames pmIBadNames cdIBadNames ctIBadNames ocIBadFuture kVIBadFuture dcIBadFuture pmIBadFuture cdIBadFuture ctIBadFuture ocIBadOptions kVIBadOptions dcIBadOptions pmIBadOptions cdIBadOptions ctIBadOptions ocIBadIndex kVIBadIndex dcIBadIndex pmIBadIndex cdIBadIndex ctIBadIndex ocIBadSteps kVIBadSteps dcIBadSteps pmIBadSteps cdIBadSteps ctIBadSteps ocIBadChange kVIBadChange dcIBadChange pmIBadChange cdIBadChange ctIBadChange ocIBadText kVIBadText dcIBadText pmIBadText cdIBadText ctIBadText ocITooMany kVITooMany dcITooMany pmITooMany cdITooMany ctITooMany ocIClash kVIClash dcIClash pmIClash cdIClash ctIClash ocITaken kVITaken dcITaken pmITaken cdITaken ctITaken ocIInUse kVIInUse dcIInUse pmIInUse cdIInUse ctIInUse ocINoClass kVINoClass dcINoClass pmINoClass cdINoClass ctINoClass ocINoMethod kVINoMethod dcINoMethod pmINoMethod cdINoMethod ctINoMethod ocIWanted kVIWanted dcIWanted pmIWanted cdIWanted ctIWanted ocITwice kVITwice dcITwice pmITwice cdITwice ctITwice ocIUnasked kVIUnasked dcIUnasked pmIUnasked cdIUnasked ctIUnasked : Value}
    (a_h_source : PySem.W.nsIn K mainGlobals "_law_source" = some (some (.ref f_h_source)))
    (l_h_source : K.lookup f_h_source = some ⟨och_source, odh_source, .func (PySem.W.fnOf "_law_source" "_law_source" (defArgs s_h_source) (defBody s_h_source) (defScope s_h_source) .none kVh_source dch_source pmh_source anh_source cdh_source cth_source), slh_source⟩)
    (c_h_source : PySem.W.codeIn K cdh_source "_law_source" = true)
    (k_h_source : PySem.W.keepIn K (.ref f_h_source) = true)
    (a_h_next : PySem.W.nsIn K mainGlobals "_law_next" = some (some (.ref f_h_next)))
    (l_h_next : K.lookup f_h_next = some ⟨och_next, odh_next, .func (PySem.W.fnOf "_law_next" "_law_next" (defArgs s_h_next) (defBody s_h_next) (defScope s_h_next) .none kVh_next dch_next pmh_next anh_next cdh_next cth_next), slh_next⟩)
    (c_h_next : PySem.W.codeIn K cdh_next "_law_next" = true)
    (k_h_next : PySem.W.keepIn K (.ref f_h_next) = true)
    (a_h_pick : PySem.W.nsIn K mainGlobals "_law_pick" = some (some (.ref f_h_pick)))
    (l_h_pick : K.lookup f_h_pick = some ⟨och_pick, odh_pick, .func (PySem.W.fnOf "_law_pick" "_law_pick" (defArgs s_h_pick) (defBody s_h_pick) (defScope s_h_pick) .none kVh_pick dch_pick pmh_pick anh_pick cdh_pick cth_pick), slh_pick⟩)
    (c_h_pick : PySem.W.codeIn K cdh_pick "_law_pick" = true)
    (k_h_pick : PySem.W.keepIn K (.ref f_h_pick) = true)
    (a_h_made_errors : PySem.W.nsIn K mainGlobals "_law_made_errors" = some (some (.ref f_h_made_errors)))
    (l_h_made_errors : K.lookup f_h_made_errors = some ⟨och_made_errors, odh_made_errors, .func (PySem.W.fnOf "_law_made_errors" "_law_made_errors" (defArgs s_h_made_errors) (defBody s_h_made_errors) (defScope s_h_made_errors) .none kVh_made_errors dch_made_errors pmh_made_errors anh_made_errors cdh_made_errors cth_made_errors), slh_made_errors⟩)
    (c_h_made_errors : PySem.W.codeIn K cdh_made_errors "_law_made_errors" = true)
    (k_h_made_errors : PySem.W.keepIn K (.ref f_h_made_errors) = true)
    (a_h_class_marks : PySem.W.nsIn K mainGlobals "_law_class_marks" = some (some (.ref f_h_class_marks)))
    (l_h_class_marks : K.lookup f_h_class_marks = some ⟨och_class_marks, odh_class_marks, .func (PySem.W.fnOf "_law_class_marks" "_law_class_marks" (defArgs s_h_class_marks) (defBody s_h_class_marks) (defScope s_h_class_marks) .none kVh_class_marks dch_class_marks pmh_class_marks anh_class_marks cdh_class_marks cth_class_marks), slh_class_marks⟩)
    (c_h_class_marks : PySem.W.codeIn K cdh_class_marks "_law_class_marks" = true)
    (k_h_class_marks : PySem.W.keepIn K (.ref f_h_class_marks) = true)
    (a_h_families_right : PySem.W.nsIn K mainGlobals "_law_families_right" = some (some (.ref f_h_families_right)))
    (l_h_families_right : K.lookup f_h_families_right = some ⟨och_families_right, odh_families_right, .func (PySem.W.fnOf "_law_families_right" "_law_families_right" (defArgs s_h_families_right) (defBody s_h_families_right) (defScope s_h_families_right) .none kVh_families_right dch_families_right pmh_families_right anh_families_right cdh_families_right cth_families_right), slh_families_right⟩)
    (c_h_families_right : PySem.W.codeIn K cdh_families_right "_law_families_right" = true)
    (k_h_families_right : PySem.W.keepIn K (.ref f_h_families_right) = true)
    (a_h_fields_right : PySem.W.nsIn K mainGlobals "_law_fields_right" = some (some (.ref f_h_fields_right)))
    (l_h_fields_right : K.lookup f_h_fields_right = some ⟨och_fields_right, odh_fields_right, .func (PySem.W.fnOf "_law_fields_right" "_law_fields_right" (defArgs s_h_fields_right) (defBody s_h_fields_right) (defScope s_h_fields_right) .none kVh_fields_right dch_fields_right pmh_fields_right anh_fields_right cdh_fields_right cth_fields_right), slh_fields_right⟩)
    (c_h_fields_right : PySem.W.codeIn K cdh_fields_right "_law_fields_right" = true)
    (k_h_fields_right : PySem.W.keepIn K (.ref f_h_fields_right) = true)
    (a_law : PySem.W.nsIn K mainGlobals "law" = some (some (.ref f_law)))
    (l_law : K.lookup f_law = some ⟨oclaw, odlaw, .func (PySem.W.fnOf "law" "law" (defArgs s_law) (defBody s_law) (defScope s_law) .none kVlaw dclaw pmlaw anlaw cdlaw ctlaw), sllaw⟩)
    (c_law : PySem.W.codeIn K cdlaw "law" = true)
    (k_law : PySem.W.keepIn K (.ref f_law) = true)
    (a_BadName : PySem.W.nsIn K mainGlobals "BadName" = some (some (.ref C_BadName)))
    (e_BadName : errB K C_BadName [.type "ValueError", .type "Exception", .type "BaseException", .type "object"] "ValueError.__new__" ["reason"] = true)
    (n_BadName : PySem.W.findIn K (.ref C_BadName) "__init__" = some (some (.ref i_BadName)))
    (t_BadName : PySem.W.typeIn K (.ref i_BadName) = some (.type "function"))
    (l_IBadName : K.lookup i_BadName = some ⟨ocIBadName, odIBadName, .func (PySem.W.fnOf "__init__" "BadName.__init__" (defArgs sI_BadName) (defBody sI_BadName) (defScope sI_BadName) .none kVIBadName dcIBadName pmIBadName anIBadName cdIBadName ctIBadName), slIBadName⟩)
    (c_IBadName : PySem.W.codeIn K cdIBadName "BadName.__init__" = true)
    (k_IBadName : PySem.W.keepIn K (.ref i_BadName) = true)
    (a_BadBases : PySem.W.nsIn K mainGlobals "BadBases" = some (some (.ref C_BadBases)))
    (e_BadBases : errB K C_BadBases [.type "ValueError", .type "Exception", .type "BaseException", .type "object"] "ValueError.__new__" ["reason"] = true)
    (n_BadBases : PySem.W.findIn K (.ref C_BadBases) "__init__" = some (some (.ref i_BadBases)))
    (t_BadBases : PySem.W.typeIn K (.ref i_BadBases) = some (.type "function"))
    (l_IBadBases : K.lookup i_BadBases = some ⟨ocIBadBases, odIBadBases, .func (PySem.W.fnOf "__init__" "BadBases.__init__" (defArgs sI_BadBases) (defBody sI_BadBases) (defScope sI_BadBases) .none kVIBadBases dcIBadBases pmIBadBases anIBadBases cdIBadBases ctIBadBases), slIBadBases⟩)
    (c_IBadBases : PySem.W.codeIn K cdIBadBases "BadBases.__init__" = true)
    (k_IBadBases : PySem.W.keepIn K (.ref i_BadBases) = true)
    (a_BadMethod : PySem.W.nsIn K mainGlobals "BadMethod" = some (some (.ref C_BadMethod)))
    (e_BadMethod : errB K C_BadMethod [.type "ValueError", .type "Exception", .type "BaseException", .type "object"] "ValueError.__new__" ["name"] = true)
    (n_BadMethod : PySem.W.findIn K (.ref C_BadMethod) "__init__" = some (some (.ref i_BadMethod)))
    (t_BadMethod : PySem.W.typeIn K (.ref i_BadMethod) = some (.type "function"))
    (l_IBadMethod : K.lookup i_BadMethod = some ⟨ocIBadMethod, odIBadMethod, .func (PySem.W.fnOf "__init__" "BadMethod.__init__" (defArgs sI_BadMethod) (defBody sI_BadMethod) (defScope sI_BadMethod) .none kVIBadMethod dcIBadMethod pmIBadMethod anIBadMethod cdIBadMethod ctIBadMethod), slIBadMethod⟩)
    (c_IBadMethod : PySem.W.codeIn K cdIBadMethod "BadMethod.__init__" = true)
    (k_IBadMethod : PySem.W.keepIn K (.ref i_BadMethod) = true)
    (a_BadTuple : PySem.W.nsIn K mainGlobals "BadTuple" = some (some (.ref C_BadTuple)))
    (e_BadTuple : errB K C_BadTuple [.type "ValueError", .type "Exception", .type "BaseException", .type "object"] "ValueError.__new__" ["index"] = true)
    (n_BadTuple : PySem.W.findIn K (.ref C_BadTuple) "__init__" = some (some (.ref i_BadTuple)))
    (t_BadTuple : PySem.W.typeIn K (.ref i_BadTuple) = some (.type "function"))
    (l_IBadTuple : K.lookup i_BadTuple = some ⟨ocIBadTuple, odIBadTuple, .func (PySem.W.fnOf "__init__" "BadTuple.__init__" (defArgs sI_BadTuple) (defBody sI_BadTuple) (defScope sI_BadTuple) .none kVIBadTuple dcIBadTuple pmIBadTuple anIBadTuple cdIBadTuple ctIBadTuple), slIBadTuple⟩)
    (c_IBadTuple : PySem.W.codeIn K cdIBadTuple "BadTuple.__init__" = true)
    (k_IBadTuple : PySem.W.keepIn K (.ref i_BadTuple) = true)
    (a_BadNames : PySem.W.nsIn K mainGlobals "BadNames" = some (some (.ref C_BadNames)))
    (e_BadNames : errB K C_BadNames [.type "ValueError", .type "Exception", .type "BaseException", .type "object"] "ValueError.__new__" ["reason"] = true)
    (n_BadNames : PySem.W.findIn K (.ref C_BadNames) "__init__" = some (some (.ref i_BadNames)))
    (t_BadNames : PySem.W.typeIn K (.ref i_BadNames) = some (.type "function"))
    (l_IBadNames : K.lookup i_BadNames = some ⟨ocIBadNames, odIBadNames, .func (PySem.W.fnOf "__init__" "BadNames.__init__" (defArgs sI_BadNames) (defBody sI_BadNames) (defScope sI_BadNames) .none kVIBadNames dcIBadNames pmIBadNames anIBadNames cdIBadNames ctIBadNames), slIBadNames⟩)
    (c_IBadNames : PySem.W.codeIn K cdIBadNames "BadNames.__init__" = true)
    (k_IBadNames : PySem.W.keepIn K (.ref i_BadNames) = true)
    (a_BadFuture : PySem.W.nsIn K mainGlobals "BadFuture" = some (some (.ref C_BadFuture)))
    (e_BadFuture : errB K C_BadFuture [.type "ValueError", .type "Exception", .type "BaseException", .type "object"] "ValueError.__new__" ["reason"] = true)
    (n_BadFuture : PySem.W.findIn K (.ref C_BadFuture) "__init__" = some (some (.ref i_BadFuture)))
    (t_BadFuture : PySem.W.typeIn K (.ref i_BadFuture) = some (.type "function"))
    (l_IBadFuture : K.lookup i_BadFuture = some ⟨ocIBadFuture, odIBadFuture, .func (PySem.W.fnOf "__init__" "BadFuture.__init__" (defArgs sI_BadFuture) (defBody sI_BadFuture) (defScope sI_BadFuture) .none kVIBadFuture dcIBadFuture pmIBadFuture anIBadFuture cdIBadFuture ctIBadFuture), slIBadFuture⟩)
    (c_IBadFuture : PySem.W.codeIn K cdIBadFuture "BadFuture.__init__" = true)
    (k_IBadFuture : PySem.W.keepIn K (.ref i_BadFuture) = true)
    (a_BadOptions : PySem.W.nsIn K mainGlobals "BadOptions" = some (some (.ref C_BadOptions)))
    (e_BadOptions : errB K C_BadOptions [.type "ValueError", .type "Exception", .type "BaseException", .type "object"] "ValueError.__new__" ["reason"] = true)
    (n_BadOptions : PySem.W.findIn K (.ref C_BadOptions) "__init__" = some (some (.ref i_BadOptions)))
    (t_BadOptions : PySem.W.typeIn K (.ref i_BadOptions) = some (.type "function"))
    (l_IBadOptions : K.lookup i_BadOptions = some ⟨ocIBadOptions, odIBadOptions, .func (PySem.W.fnOf "__init__" "BadOptions.__init__" (defArgs sI_BadOptions) (defBody sI_BadOptions) (defScope sI_BadOptions) .none kVIBadOptions dcIBadOptions pmIBadOptions anIBadOptions cdIBadOptions ctIBadOptions), slIBadOptions⟩)
    (c_IBadOptions : PySem.W.codeIn K cdIBadOptions "BadOptions.__init__" = true)
    (k_IBadOptions : PySem.W.keepIn K (.ref i_BadOptions) = true)
    (a_BadIndex : PySem.W.nsIn K mainGlobals "BadIndex" = some (some (.ref C_BadIndex)))
    (e_BadIndex : errB K C_BadIndex [.type "ValueError", .type "Exception", .type "BaseException", .type "object"] "ValueError.__new__" ["reason"] = true)
    (n_BadIndex : PySem.W.findIn K (.ref C_BadIndex) "__init__" = some (some (.ref i_BadIndex)))
    (t_BadIndex : PySem.W.typeIn K (.ref i_BadIndex) = some (.type "function"))
    (l_IBadIndex : K.lookup i_BadIndex = some ⟨ocIBadIndex, odIBadIndex, .func (PySem.W.fnOf "__init__" "BadIndex.__init__" (defArgs sI_BadIndex) (defBody sI_BadIndex) (defScope sI_BadIndex) .none kVIBadIndex dcIBadIndex pmIBadIndex anIBadIndex cdIBadIndex ctIBadIndex), slIBadIndex⟩)
    (c_IBadIndex : PySem.W.codeIn K cdIBadIndex "BadIndex.__init__" = true)
    (k_IBadIndex : PySem.W.keepIn K (.ref i_BadIndex) = true)
    (a_BadSteps : PySem.W.nsIn K mainGlobals "BadSteps" = some (some (.ref C_BadSteps)))
    (e_BadSteps : errB K C_BadSteps [.type "ValueError", .type "Exception", .type "BaseException", .type "object"] "ValueError.__new__" ["reason"] = true)
    (n_BadSteps : PySem.W.findIn K (.ref C_BadSteps) "__init__" = some (some (.ref i_BadSteps)))
    (t_BadSteps : PySem.W.typeIn K (.ref i_BadSteps) = some (.type "function"))
    (l_IBadSteps : K.lookup i_BadSteps = some ⟨ocIBadSteps, odIBadSteps, .func (PySem.W.fnOf "__init__" "BadSteps.__init__" (defArgs sI_BadSteps) (defBody sI_BadSteps) (defScope sI_BadSteps) .none kVIBadSteps dcIBadSteps pmIBadSteps anIBadSteps cdIBadSteps ctIBadSteps), slIBadSteps⟩)
    (c_IBadSteps : PySem.W.codeIn K cdIBadSteps "BadSteps.__init__" = true)
    (k_IBadSteps : PySem.W.keepIn K (.ref i_BadSteps) = true)
    (a_BadChange : PySem.W.nsIn K mainGlobals "BadChange" = some (some (.ref C_BadChange)))
    (e_BadChange : errB K C_BadChange [.type "ValueError", .type "Exception", .type "BaseException", .type "object"] "ValueError.__new__" ["index"] = true)
    (n_BadChange : PySem.W.findIn K (.ref C_BadChange) "__init__" = some (some (.ref i_BadChange)))
    (t_BadChange : PySem.W.typeIn K (.ref i_BadChange) = some (.type "function"))
    (l_IBadChange : K.lookup i_BadChange = some ⟨ocIBadChange, odIBadChange, .func (PySem.W.fnOf "__init__" "BadChange.__init__" (defArgs sI_BadChange) (defBody sI_BadChange) (defScope sI_BadChange) .none kVIBadChange dcIBadChange pmIBadChange anIBadChange cdIBadChange ctIBadChange), slIBadChange⟩)
    (c_IBadChange : PySem.W.codeIn K cdIBadChange "BadChange.__init__" = true)
    (k_IBadChange : PySem.W.keepIn K (.ref i_BadChange) = true)
    (a_BadText : PySem.W.nsIn K mainGlobals "BadText" = some (some (.ref C_BadText)))
    (e_BadText : errB K C_BadText [.type "ValueError", .type "Exception", .type "BaseException", .type "object"] "ValueError.__new__" ["line"] = true)
    (n_BadText : PySem.W.findIn K (.ref C_BadText) "__init__" = some (some (.ref i_BadText)))
    (t_BadText : PySem.W.typeIn K (.ref i_BadText) = some (.type "function"))
    (l_IBadText : K.lookup i_BadText = some ⟨ocIBadText, odIBadText, .func (PySem.W.fnOf "__init__" "BadText.__init__" (defArgs sI_BadText) (defBody sI_BadText) (defScope sI_BadText) .none kVIBadText dcIBadText pmIBadText anIBadText cdIBadText ctIBadText), slIBadText⟩)
    (c_IBadText : PySem.W.codeIn K cdIBadText "BadText.__init__" = true)
    (k_IBadText : PySem.W.keepIn K (.ref i_BadText) = true)
    (a_TooMany : PySem.W.nsIn K mainGlobals "TooMany" = some (some (.ref C_TooMany)))
    (e_TooMany : errB K C_TooMany [.type "ArithmeticError", .type "Exception", .type "BaseException", .type "object"] "ArithmeticError.__new__" ["limit"] = true)
    (n_TooMany : PySem.W.findIn K (.ref C_TooMany) "__init__" = some (some (.ref i_TooMany)))
    (t_TooMany : PySem.W.typeIn K (.ref i_TooMany) = some (.type "function"))
    (l_ITooMany : K.lookup i_TooMany = some ⟨ocITooMany, odITooMany, .func (PySem.W.fnOf "__init__" "TooMany.__init__" (defArgs sI_TooMany) (defBody sI_TooMany) (defScope sI_TooMany) .none kVITooMany dcITooMany pmITooMany anITooMany cdITooMany ctITooMany), slITooMany⟩)
    (c_ITooMany : PySem.W.codeIn K cdITooMany "TooMany.__init__" = true)
    (k_ITooMany : PySem.W.keepIn K (.ref i_TooMany) = true)
    (a_Clash : PySem.W.nsIn K mainGlobals "Clash" = some (some (.ref C_Clash)))
    (e_Clash : errB K C_Clash [.type "ArithmeticError", .type "Exception", .type "BaseException", .type "object"] "ArithmeticError.__new__" ["name", "tuples", "steps"] = true)
    (n_Clash : PySem.W.findIn K (.ref C_Clash) "__init__" = some (some (.ref i_Clash)))
    (t_Clash : PySem.W.typeIn K (.ref i_Clash) = some (.type "function"))
    (l_IClash : K.lookup i_Clash = some ⟨ocIClash, odIClash, .func (PySem.W.fnOf "__init__" "Clash.__init__" (defArgs sI_Clash) (defBody sI_Clash) (defScope sI_Clash) .none kVIClash dcIClash pmIClash anIClash cdIClash ctIClash), slIClash⟩)
    (c_IClash : PySem.W.codeIn K cdIClash "Clash.__init__" = true)
    (k_IClash : PySem.W.keepIn K (.ref i_Clash) = true)
    (a_Taken : PySem.W.nsIn K mainGlobals "Taken" = some (some (.ref C_Taken)))
    (e_Taken : errB K C_Taken [.type "ArithmeticError", .type "Exception", .type "BaseException", .type "object"] "ArithmeticError.__new__" ["name"] = true)
    (n_Taken : PySem.W.findIn K (.ref C_Taken) "__init__" = some (some (.ref i_Taken)))
    (t_Taken : PySem.W.typeIn K (.ref i_Taken) = some (.type "function"))
    (l_ITaken : K.lookup i_Taken = some ⟨ocITaken, odITaken, .func (PySem.W.fnOf "__init__" "Taken.__init__" (defArgs sI_Taken) (defBody sI_Taken) (defScope sI_Taken) .none kVITaken dcITaken pmITaken anITaken cdITaken ctITaken), slITaken⟩)
    (c_ITaken : PySem.W.codeIn K cdITaken "Taken.__init__" = true)
    (k_ITaken : PySem.W.keepIn K (.ref i_Taken) = true)
    (a_InUse : PySem.W.nsIn K mainGlobals "InUse" = some (some (.ref C_InUse)))
    (e_InUse : errB K C_InUse [.type "ArithmeticError", .type "Exception", .type "BaseException", .type "object"] "ArithmeticError.__new__" ["name", "user"] = true)
    (n_InUse : PySem.W.findIn K (.ref C_InUse) "__init__" = some (some (.ref i_InUse)))
    (t_InUse : PySem.W.typeIn K (.ref i_InUse) = some (.type "function"))
    (l_IInUse : K.lookup i_InUse = some ⟨ocIInUse, odIInUse, .func (PySem.W.fnOf "__init__" "InUse.__init__" (defArgs sI_InUse) (defBody sI_InUse) (defScope sI_InUse) .none kVIInUse dcIInUse pmIInUse anIInUse cdIInUse ctIInUse), slIInUse⟩)
    (c_IInUse : PySem.W.codeIn K cdIInUse "InUse.__init__" = true)
    (k_IInUse : PySem.W.keepIn K (.ref i_InUse) = true)
    (a_NoClass : PySem.W.nsIn K mainGlobals "NoClass" = some (some (.ref C_NoClass)))
    (e_NoClass : errB K C_NoClass [.type "LookupError", .type "Exception", .type "BaseException", .type "object"] "LookupError.__new__" ["name"] = true)
    (n_NoClass : PySem.W.findIn K (.ref C_NoClass) "__init__" = some (some (.ref i_NoClass)))
    (t_NoClass : PySem.W.typeIn K (.ref i_NoClass) = some (.type "function"))
    (l_INoClass : K.lookup i_NoClass = some ⟨ocINoClass, odINoClass, .func (PySem.W.fnOf "__init__" "NoClass.__init__" (defArgs sI_NoClass) (defBody sI_NoClass) (defScope sI_NoClass) .none kVINoClass dcINoClass pmINoClass anINoClass cdINoClass ctINoClass), slINoClass⟩)
    (c_INoClass : PySem.W.codeIn K cdINoClass "NoClass.__init__" = true)
    (k_INoClass : PySem.W.keepIn K (.ref i_NoClass) = true)
    (a_NoMethod : PySem.W.nsIn K mainGlobals "NoMethod" = some (some (.ref C_NoMethod)))
    (e_NoMethod : errB K C_NoMethod [.type "LookupError", .type "Exception", .type "BaseException", .type "object"] "LookupError.__new__" ["name", "method"] = true)
    (n_NoMethod : PySem.W.findIn K (.ref C_NoMethod) "__init__" = some (some (.ref i_NoMethod)))
    (t_NoMethod : PySem.W.typeIn K (.ref i_NoMethod) = some (.type "function"))
    (l_INoMethod : K.lookup i_NoMethod = some ⟨ocINoMethod, odINoMethod, .func (PySem.W.fnOf "__init__" "NoMethod.__init__" (defArgs sI_NoMethod) (defBody sI_NoMethod) (defScope sI_NoMethod) .none kVINoMethod dcINoMethod pmINoMethod anINoMethod cdINoMethod ctINoMethod), slINoMethod⟩)
    (c_INoMethod : PySem.W.codeIn K cdINoMethod "NoMethod.__init__" = true)
    (k_INoMethod : PySem.W.keepIn K (.ref i_NoMethod) = true)
    (a_Wanted : PySem.W.nsIn K mainGlobals "Wanted" = some (some (.ref C_Wanted)))
    (e_Wanted : errB K C_Wanted [.type "RuntimeError", .type "Exception", .type "BaseException", .type "object"] "RuntimeError.__new__" ["name", "option"] = true)
    (n_Wanted : PySem.W.findIn K (.ref C_Wanted) "__init__" = some (some (.ref i_Wanted)))
    (t_Wanted : PySem.W.typeIn K (.ref i_Wanted) = some (.type "function"))
    (l_IWanted : K.lookup i_Wanted = some ⟨ocIWanted, odIWanted, .func (PySem.W.fnOf "__init__" "Wanted.__init__" (defArgs sI_Wanted) (defBody sI_Wanted) (defScope sI_Wanted) .none kVIWanted dcIWanted pmIWanted anIWanted cdIWanted ctIWanted), slIWanted⟩)
    (c_IWanted : PySem.W.codeIn K cdIWanted "Wanted.__init__" = true)
    (k_IWanted : PySem.W.keepIn K (.ref i_Wanted) = true)
    (a_Twice : PySem.W.nsIn K mainGlobals "Twice" = some (some (.ref C_Twice)))
    (e_Twice : errB K C_Twice [.type "RuntimeError", .type "Exception", .type "BaseException", .type "object"] "RuntimeError.__new__" ["name", "option"] = true)
    (n_Twice : PySem.W.findIn K (.ref C_Twice) "__init__" = some (some (.ref i_Twice)))
    (t_Twice : PySem.W.typeIn K (.ref i_Twice) = some (.type "function"))
    (l_ITwice : K.lookup i_Twice = some ⟨ocITwice, odITwice, .func (PySem.W.fnOf "__init__" "Twice.__init__" (defArgs sI_Twice) (defBody sI_Twice) (defScope sI_Twice) .none kVITwice dcITwice pmITwice anITwice cdITwice ctITwice), slITwice⟩)
    (c_ITwice : PySem.W.codeIn K cdITwice "Twice.__init__" = true)
    (k_ITwice : PySem.W.keepIn K (.ref i_Twice) = true)
    (a_Unasked : PySem.W.nsIn K mainGlobals "Unasked" = some (some (.ref C_Unasked)))
    (e_Unasked : errB K C_Unasked [.type "RuntimeError", .type "Exception", .type "BaseException", .type "object"] "RuntimeError.__new__" ["options"] = true)
    (n_Unasked : PySem.W.findIn K (.ref C_Unasked) "__init__" = some (some (.ref i_Unasked)))
    (t_Unasked : PySem.W.typeIn K (.ref i_Unasked) = some (.type "function"))
    (l_IUnasked : K.lookup i_Unasked = some ⟨ocIUnasked, odIUnasked, .func (PySem.W.fnOf "__init__" "Unasked.__init__" (defArgs sI_Unasked) (defBody sI_Unasked) (defScope sI_Unasked) .none kVIUnasked dcIUnasked pmIUnasked anIUnasked cdIUnasked ctIUnasked), slIUnasked⟩)
    (c_IUnasked : PySem.W.codeIn K cdIUnasked "Unasked.__init__" = true)
    (k_IUnasked : PySem.W.keepIn K (.ref i_Unasked) = true)
    (a_WorldError : PySem.W.nsIn K mainGlobals "WorldError" = some (some (.ref C_WorldError)))
    (a_LimitError : PySem.W.nsIn K mainGlobals "LimitError" = some (some (.ref C_LimitError)))
    (a_MissingError : PySem.W.nsIn K mainGlobals "MissingError" = some (some (.ref C_MissingError)))
    (a_CallError : PySem.W.nsIn K mainGlobals "CallError" = some (some (.ref C_CallError)))
    (z_len : PySem.W.nsIn K mainGlobals "len" = some none)
    (z_isinstance : PySem.W.nsIn K mainGlobals "isinstance" = some none)
    (z_range : PySem.W.nsIn K mainGlobals "range" = some none)
    (z_enumerate : PySem.W.nsIn K mainGlobals "enumerate" = some none)
    (z_repr : PySem.W.nsIn K mainGlobals "repr" = some none)
    (z_ValueError : PySem.W.nsIn K mainGlobals "ValueError" = some none)
    (z_ArithmeticError : PySem.W.nsIn K mainGlobals "ArithmeticError" = some none)
    (z_LookupError : PySem.W.nsIn K mainGlobals "LookupError" = some none)
    (z_RuntimeError : PySem.W.nsIn K mainGlobals "RuntimeError" = some none)
    (z_KeyError : PySem.W.nsIn K mainGlobals "KeyError" = some none)
    (z_IndexError : PySem.W.nsIn K mainGlobals "IndexError" = some none)
    (z_OverflowError : PySem.W.nsIn K mainGlobals "OverflowError" = some none)
    (z_ZeroDivisionError : PySem.W.nsIn K mainGlobals "ZeroDivisionError" = some none)
    (z_TypeError : PySem.W.nsIn K mainGlobals "TypeError" = some none)
    (kts : kitsB K (tab [C_BadName, C_BadBases, C_BadMethod, C_BadTuple, C_BadNames, C_BadFuture, C_BadOptions, C_BadIndex, C_BadSteps, C_BadChange, C_BadText, C_TooMany, C_Clash, C_Taken, C_InUse, C_NoClass, C_NoMethod, C_Wanted, C_Twice, C_Unasked]) (tab [C_WorldError, C_LimitError, C_MissingError, C_CallError]) = true) :
    ∃ fd : FuncData, (∀ (s : Shared) (v : Value), BindsTo s fd ⟨[v], []⟩ [("_law_script", v)]) ∧ ∀ base : Heap, K.In base → base.Ns mainGlobals mg → RunsG l.prog w K mg base CX0 5 fa fd ["_law_script"] (spLaw0 K) := by
  have e := hfa.symm.trans (PySem.W.mg_of X G a_law)
  cases e
  have F_h_source := fun_mk (st := s_h_source) l_h_source c_h_source k_h_source
  have b_h_source := F_h_source.binds (ps := ["_law_script", "_law_k"]) fun _ _ _ _ _ _ us hl => match us, hl with | [_, _], _ => rfl
  have F_h_next := fun_mk (st := s_h_next) l_h_next c_h_next k_h_next
  have b_h_next := F_h_next.binds (ps := ["_law_source_here", "_law_many"]) fun _ _ _ _ _ _ us hl => match us, hl with | [_, _], _ => rfl
  have F_h_pick := fun_mk (st := s_h_pick) l_h_pick c_h_pick k_h_pick
  have b_h_pick := F_h_pick.binds (ps := ["_law_source_here", "_law_items"]) fun _ _ _ _ _ _ us hl => match us, hl with | [_, _], _ => rfl
  have F_h_made_errors := fun_mk (st := s_h_made_errors) l_h_made_errors c_h_made_errors k_h_made_errors
  have b_h_made_errors := F_h_made_errors.binds (ps := ["_law_x"]) fun _ _ _ _ _ _ us hl => match us, hl with | [_], _ => rfl
  have F_h_class_marks := fun_mk (st := s_h_class_marks) l_h_class_marks c_h_class_marks k_h_class_marks
  have b_h_class_marks := F_h_class_marks.binds (ps := ["_law_e"]) fun _ _ _ _ _ _ us hl => match us, hl with | [_], _ => rfl
  have F_h_families_right := fun_mk (st := s_h_families_right) l_h_families_right c_h_families_right k_h_families_right
  have b_h_families_right := F_h_families_right.binds (ps := ["_law_groups"]) fun _ _ _ _ _ _ us hl => match us, hl with | [_], _ => rfl
  have F_h_fields_right := fun_mk (st := s_h_fields_right) l_h_fields_right c_h_fields_right k_h_fields_right
  have b_h_fields_right := F_h_fields_right.binds (ps := ["_law_groups", "_law_x"]) fun _ _ _ _ _ _ us hl => match us, hl with | [_, _], _ => rfl
  have F_law := fun_mk (st := s_law) l_law c_law k_law
  have F_IBadName := fun_mk (st := sI_BadName) l_IBadName c_IBadName k_IBadName
  have b_IBadName := F_IBadName.binds (ps := ["self", "reason"]) fun _ _ _ _ _ _ us hl => match us, hl with | [_, _], _ => rfl
  have F_IBadBases := fun_mk (st := sI_BadBases) l_IBadBases c_IBadBases k_IBadBases
  have b_IBadBases := F_IBadBases.binds (ps := ["self", "reason"]) fun _ _ _ _ _ _ us hl => match us, hl with | [_, _], _ => rfl
  have F_IBadMethod := fun_mk (st := sI_BadMethod) l_IBadMethod c_IBadMethod k_IBadMethod
  have b_IBadMethod := F_IBadMethod.binds (ps := ["self", "name"]) fun _ _ _ _ _ _ us hl => match us, hl with | [_, _], _ => rfl
  have F_IBadTuple := fun_mk (st := sI_BadTuple) l_IBadTuple c_IBadTuple k_IBadTuple
  have b_IBadTuple := F_IBadTuple.binds (ps := ["self", "index"]) fun _ _ _ _ _ _ us hl => match us, hl with | [_, _], _ => rfl
  have F_IBadNames := fun_mk (st := sI_BadNames) l_IBadNames c_IBadNames k_IBadNames
  have b_IBadNames := F_IBadNames.binds (ps := ["self", "reason"]) fun _ _ _ _ _ _ us hl => match us, hl with | [_, _], _ => rfl
  have F_IBadFuture := fun_mk (st := sI_BadFuture) l_IBadFuture c_IBadFuture k_IBadFuture
  have b_IBadFuture := F_IBadFuture.binds (ps := ["self", "reason"]) fun _ _ _ _ _ _ us hl => match us, hl with | [_, _], _ => rfl
  have F_IBadOptions := fun_mk (st := sI_BadOptions) l_IBadOptions c_IBadOptions k_IBadOptions
  have b_IBadOptions := F_IBadOptions.binds (ps := ["self", "reason"]) fun _ _ _ _ _ _ us hl => match us, hl with | [_, _], _ => rfl
  have F_IBadIndex := fun_mk (st := sI_BadIndex) l_IBadIndex c_IBadIndex k_IBadIndex
  have b_IBadIndex := F_IBadIndex.binds (ps := ["self", "reason"]) fun _ _ _ _ _ _ us hl => match us, hl with | [_, _], _ => rfl
  have F_IBadSteps := fun_mk (st := sI_BadSteps) l_IBadSteps c_IBadSteps k_IBadSteps
  have b_IBadSteps := F_IBadSteps.binds (ps := ["self", "reason"]) fun _ _ _ _ _ _ us hl => match us, hl with | [_, _], _ => rfl
  have F_IBadChange := fun_mk (st := sI_BadChange) l_IBadChange c_IBadChange k_IBadChange
  have b_IBadChange := F_IBadChange.binds (ps := ["self", "index"]) fun _ _ _ _ _ _ us hl => match us, hl with | [_, _], _ => rfl
  have F_IBadText := fun_mk (st := sI_BadText) l_IBadText c_IBadText k_IBadText
  have b_IBadText := F_IBadText.binds (ps := ["self", "line"]) fun _ _ _ _ _ _ us hl => match us, hl with | [_, _], _ => rfl
  have F_ITooMany := fun_mk (st := sI_TooMany) l_ITooMany c_ITooMany k_ITooMany
  have b_ITooMany := F_ITooMany.binds (ps := ["self", "limit"]) fun _ _ _ _ _ _ us hl => match us, hl with | [_, _], _ => rfl
  have F_IClash := fun_mk (st := sI_Clash) l_IClash c_IClash k_IClash
  have b_IClash := F_IClash.binds (ps := ["self", "name", "tuples", "steps"]) fun _ _ _ _ _ _ us hl => match us, hl with | [_, _, _, _], _ => rfl
  have F_ITaken := fun_mk (st := sI_Taken) l_ITaken c_ITaken k_ITaken
  have b_ITaken := F_ITaken.binds (ps := ["self", "name"]) fun _ _ _ _ _ _ us hl => match us, hl with | [_, _], _ => rfl
  have F_IInUse := fun_mk (st := sI_InUse) l_IInUse c_IInUse k_IInUse
  have b_IInUse := F_IInUse.binds (ps := ["self", "name", "user"]) fun _ _ _ _ _ _ us hl => match us, hl with | [_, _, _], _ => rfl
  have F_INoClass := fun_mk (st := sI_NoClass) l_INoClass c_INoClass k_INoClass
  have b_INoClass := F_INoClass.binds (ps := ["self", "name"]) fun _ _ _ _ _ _ us hl => match us, hl with | [_, _], _ => rfl
  have F_INoMethod := fun_mk (st := sI_NoMethod) l_INoMethod c_INoMethod k_INoMethod
  have b_INoMethod := F_INoMethod.binds (ps := ["self", "name", "method"]) fun _ _ _ _ _ _ us hl => match us, hl with | [_, _, _], _ => rfl
  have F_IWanted := fun_mk (st := sI_Wanted) l_IWanted c_IWanted k_IWanted
  have b_IWanted := F_IWanted.binds (ps := ["self", "name", "option"]) fun _ _ _ _ _ _ us hl => match us, hl with | [_, _, _], _ => rfl
  have F_ITwice := fun_mk (st := sI_Twice) l_ITwice c_ITwice k_ITwice
  have b_ITwice := F_ITwice.binds (ps := ["self", "name", "option"]) fun _ _ _ _ _ _ us hl => match us, hl with | [_, _, _], _ => rfl
  have F_IUnasked := fun_mk (st := sI_Unasked) l_IUnasked c_IUnasked k_IUnasked
  have b_IUnasked := F_IUnasked.binds (ps := ["self", "options"]) fun _ _ _ _ _ _ us hl => match us, hl with | [_, _], _ => rfl
  have g_WorldError := PySem.W.mg_of X G a_WorldError
  have g_LimitError := PySem.W.mg_of X G a_LimitError
  have g_MissingError := PySem.W.mg_of X G a_MissingError
  have g_CallError := PySem.W.mg_of X G a_CallError
  have T : Txt mg := ⟨PySem.W.mg_none_of X G z_len, PySem.W.mg_none_of X G z_isinstance, PySem.W.mg_none_of X G z_range, PySem.W.mg_none_of X G z_enumerate, PySem.W.mg_none_of X G z_repr, PySem.W.mg_none_of X G z_ValueError, PySem.W.mg_none_of X G z_ArithmeticError, PySem.W.mg_none_of X G z_LookupError, PySem.W.mg_none_of X G z_RuntimeError, PySem.W.mg_none_of X G z_KeyError, PySem.W.mg_none_of X G z_IndexError, PySem.W.mg_none_of X G z_OverflowError, PySem.W.mg_none_of X G z_ZeroDivisionError, PySem.W.mg_none_of X G z_TypeError⟩
  refine ⟨PySem.W.fnOf "law" "law" (defArgs s_law) (defBody s_law) (defScope s_law) .none kVlaw dclaw pmlaw anlaw cdlaw ctlaw, fun s v => .of_eq rfl, fun base _ _ => ?_⟩
  have E_BadName : Er l.prog w K mg base "BadName" C_BadName ["reason"] := er_mk overV (PySem.W.mg_of X G a_BadName) e_BadName n_BadName t_BadName b_IBadName (okI_BadName F_IBadName) (by decide) (by decide)
  have E_BadBases : Er l.prog w K mg base "BadBases" C_BadBases ["reason"] := er_mk overV (PySem.W.mg_of X G a_BadBases) e_BadBases n_BadBases t_BadBases b_IBadBases (okI_BadBases F_IBadBases) (by decide) (by decide)
  have E_BadMethod : Er l.prog w K mg base "BadMethod" C_BadMethod ["name"] := er_mk overV (PySem.W.mg_of X G a_BadMethod) e_BadMethod n_BadMethod t_BadMethod b_IBadMethod (okI_BadMethod F_IBadMethod) (by decide) (by decide)
  have E_BadTuple : Er l.prog w K mg base "BadTuple" C_BadTuple ["index"] := er_mk overV (PySem.W.mg_of X G a_BadTuple) e_BadTuple n_BadTuple t_BadTuple b_IBadTuple (okI_BadTuple F_IBadTuple) (by decide) (by decide)
  have E_BadNames : Er l.prog w K mg base "BadNames" C_BadNames ["reason"] := er_mk overV (PySem.W.mg_of X G a_BadNames) e_BadNames n_BadNames t_BadNames b_IBadNames (okI_BadNames F_IBadNames) (by decide) (by decide)
  have E_BadFuture : Er l.prog w K mg base "BadFuture" C_BadFuture ["reason"] := er_mk overV (PySem.W.mg_of X G a_BadFuture) e_BadFuture n_BadFuture t_BadFuture b_IBadFuture (okI_BadFuture F_IBadFuture) (by decide) (by decide)
  have E_BadOptions : Er l.prog w K mg base "BadOptions" C_BadOptions ["reason"] := er_mk overV (PySem.W.mg_of X G a_BadOptions) e_BadOptions n_BadOptions t_BadOptions b_IBadOptions (okI_BadOptions F_IBadOptions) (by decide) (by decide)
  have E_BadIndex : Er l.prog w K mg base "BadIndex" C_BadIndex ["reason"] := er_mk overV (PySem.W.mg_of X G a_BadIndex) e_BadIndex n_BadIndex t_BadIndex b_IBadIndex (okI_BadIndex F_IBadIndex) (by decide) (by decide)
  have E_BadSteps : Er l.prog w K mg base "BadSteps" C_BadSteps ["reason"] := er_mk overV (PySem.W.mg_of X G a_BadSteps) e_BadSteps n_BadSteps t_BadSteps b_IBadSteps (okI_BadSteps F_IBadSteps) (by decide) (by decide)
  have E_BadChange : Er l.prog w K mg base "BadChange" C_BadChange ["index"] := er_mk overV (PySem.W.mg_of X G a_BadChange) e_BadChange n_BadChange t_BadChange b_IBadChange (okI_BadChange F_IBadChange) (by decide) (by decide)
  have E_BadText : Er l.prog w K mg base "BadText" C_BadText ["line"] := er_mk overV (PySem.W.mg_of X G a_BadText) e_BadText n_BadText t_BadText b_IBadText (okI_BadText F_IBadText) (by decide) (by decide)
  have E_TooMany : Er l.prog w K mg base "TooMany" C_TooMany ["limit"] := er_mk overA (PySem.W.mg_of X G a_TooMany) e_TooMany n_TooMany t_TooMany b_ITooMany (okI_TooMany F_ITooMany) (by decide) (by decide)
  have E_Clash : Er l.prog w K mg base "Clash" C_Clash ["name", "tuples", "steps"] := er_mk overA (PySem.W.mg_of X G a_Clash) e_Clash n_Clash t_Clash b_IClash (okI_Clash F_IClash) (by decide) (by decide)
  have E_Taken : Er l.prog w K mg base "Taken" C_Taken ["name"] := er_mk overA (PySem.W.mg_of X G a_Taken) e_Taken n_Taken t_Taken b_ITaken (okI_Taken F_ITaken) (by decide) (by decide)
  have E_InUse : Er l.prog w K mg base "InUse" C_InUse ["name", "user"] := er_mk overA (PySem.W.mg_of X G a_InUse) e_InUse n_InUse t_InUse b_IInUse (okI_InUse F_IInUse) (by decide) (by decide)
  have E_NoClass : Er l.prog w K mg base "NoClass" C_NoClass ["name"] := er_mk overL (PySem.W.mg_of X G a_NoClass) e_NoClass n_NoClass t_NoClass b_INoClass (okI_NoClass F_INoClass) (by decide) (by decide)
  have E_NoMethod : Er l.prog w K mg base "NoMethod" C_NoMethod ["name", "method"] := er_mk overL (PySem.W.mg_of X G a_NoMethod) e_NoMethod n_NoMethod t_NoMethod b_INoMethod (okI_NoMethod F_INoMethod) (by decide) (by decide)
  have E_Wanted : Er l.prog w K mg base "Wanted" C_Wanted ["name", "option"] := er_mk overR (PySem.W.mg_of X G a_Wanted) e_Wanted n_Wanted t_Wanted b_IWanted (okI_Wanted F_IWanted) (by decide) (by decide)
  have E_Twice : Er l.prog w K mg base "Twice" C_Twice ["name", "option"] := er_mk overR (PySem.W.mg_of X G a_Twice) e_Twice n_Twice t_Twice b_ITwice (okI_Twice F_ITwice) (by decide) (by decide)
  have E_Unasked : Er l.prog w K mg base "Unasked" C_Unasked ["options"] := er_mk overR (PySem.W.mg_of X G a_Unasked) e_Unasked n_Unasked t_Unasked b_IUnasked (okI_Unasked F_IUnasked) (by decide) (by decide)
  have kt := kits_of kts
  have ex : ∀ n, n < 20 → ExcC K ((tab [C_BadName, C_BadBases, C_BadMethod, C_BadTuple, C_BadNames, C_BadFuture, C_BadOptions, C_BadIndex, C_BadSteps, C_BadChange, C_BadText, C_TooMany, C_Clash, C_Taken, C_InUse, C_NoClass, C_NoMethod, C_Wanted, C_Twice, C_Unasked]) n) := all20 E_BadName.T.ex E_BadBases.T.ex E_BadMethod.T.ex E_BadTuple.T.ex E_BadNames.T.ex E_BadFuture.T.ex E_BadOptions.T.ex E_BadIndex.T.ex E_BadSteps.T.ex E_BadChange.T.ex E_BadText.T.ex E_TooMany.T.ex E_Clash.T.ex E_Taken.T.ex E_InUse.T.ex E_NoClass.T.ex E_NoMethod.T.ex E_Wanted.T.ex E_Twice.T.ex E_Unasked.T.ex
  have D_h_source : Dn l.prog w K mg base CX0 1 "_law_source" ["_law_script", "_law_k"] (spSource K) := ⟨f_h_source, _, k_h_source, b_h_source, PySem.W.mg_of X G a_h_source, ok_h_source F_h_source T⟩
  have D_h_next : Dn l.prog w K mg base CX0 1 "_law_next" ["_law_source_here", "_law_many"] (spNext) := ⟨f_h_next, _, k_h_next, b_h_next, PySem.W.mg_of X G a_h_next, ok_h_next F_h_next T⟩
  have D_h_pick : Dn l.prog w K mg base CX0 2 "_law_pick" ["_law_source_here", "_law_items"] (spPick) := ⟨f_h_pick, _, k_h_pick, b_h_pick, PySem.W.mg_of X G a_h_pick, ok_h_pick F_h_pick T D_h_next⟩
  have D_h_made_errors : Dn l.prog w K mg base CX0 3 "_law_made_errors" ["_law_x"] (spMade (tab [C_BadName, C_BadBases, C_BadMethod, C_BadTuple, C_BadNames, C_BadFuture, C_BadOptions, C_BadIndex, C_BadSteps, C_BadChange, C_BadText, C_TooMany, C_Clash, C_Taken, C_InUse, C_NoClass, C_NoMethod, C_Wanted, C_Twice, C_Unasked])) := ⟨f_h_made_errors, _, k_h_made_errors, b_h_made_errors, PySem.W.mg_of X G a_h_made_errors, ok_h_made_errors F_h_made_errors T E_BadBases E_BadChange E_BadFuture E_BadIndex E_BadMethod E_BadName E_BadNames E_BadOptions E_BadSteps E_BadText E_BadTuple E_Clash E_InUse E_NoClass E_NoMethod E_Taken E_TooMany E_Twice E_Unasked E_Wanted⟩
  have D_h_class_marks : Dn l.prog w K mg base CX0 3 "_law_class_marks" ["_law_e"] (spMarks K (tab [C_BadName, C_BadBases, C_BadMethod, C_BadTuple, C_BadNames, C_BadFuture, C_BadOptions, C_BadIndex, C_BadSteps, C_BadChange, C_BadText, C_TooMany, C_Clash, C_Taken, C_InUse, C_NoClass, C_NoMethod, C_Wanted, C_Twice, C_Unasked])) := ⟨f_h_class_marks, _, k_h_class_marks, b_h_class_marks, PySem.W.mg_of X G a_h_class_marks, ok_h_class_marks F_h_class_marks T E_BadBases E_BadChange E_BadFuture E_BadIndex E_BadMethod E_BadName E_BadNames E_BadOptions E_BadSteps E_BadText E_BadTuple E_Clash E_InUse E_NoClass E_NoMethod E_Taken E_TooMany E_Twice E_Unasked E_Wanted kt⟩
  have D_h_families_right : Dn l.prog w K mg base CX0 4 "_law_families_right" ["_law_groups"] (spFam (tab [C_BadName, C_BadBases, C_BadMethod, C_BadTuple, C_BadNames, C_BadFuture, C_BadOptions, C_BadIndex, C_BadSteps, C_BadChange, C_BadText, C_TooMany, C_Clash, C_Taken, C_InUse, C_NoClass, C_NoMethod, C_Wanted, C_Twice, C_Unasked])) := ⟨f_h_families_right, _, k_h_families_right, b_h_families_right, PySem.W.mg_of X G a_h_families_right, ok_h_families_right F_h_families_right T D_h_class_marks E_BadBases E_BadChange E_BadFuture E_BadIndex E_BadMethod E_BadName E_BadNames E_BadOptions E_BadSteps E_BadText E_BadTuple E_Clash E_InUse E_NoClass E_NoMethod E_Taken E_TooMany E_Twice E_Unasked E_Wanted g_CallError g_LimitError g_MissingError g_WorldError kt ex⟩
  have D_h_fields_right : DnG l.prog w K mg base CX0 1 "_law_fields_right" ["_law_groups", "_law_x"] (spFields (tab [C_BadName, C_BadBases, C_BadMethod, C_BadTuple, C_BadNames, C_BadFuture, C_BadOptions, C_BadIndex, C_BadSteps, C_BadChange, C_BadText, C_TooMany, C_Clash, C_Taken, C_InUse, C_NoClass, C_NoMethod, C_Wanted, C_Twice, C_Unasked])) := ⟨f_h_fields_right, _, k_h_fields_right, b_h_fields_right, PySem.W.mg_of X G a_h_fields_right, len_h_fields_right, ok_h_fields_right F_h_fields_right T E_BadBases E_BadChange E_BadFuture E_BadIndex E_BadMethod E_BadName E_BadNames E_BadOptions E_BadSteps E_BadText E_BadTuple E_Clash E_InUse E_NoClass E_NoMethod E_Taken E_TooMany E_Twice E_Unasked E_Wanted⟩
  exact ok_law F_law T D_h_source D_h_pick D_h_made_errors D_h_families_right D_h_fields_right
end K01
open PySem PySem.W PyProof.Rows
set_option maxRecDepth 100000 in
set_option maxHeartbeats 0 in
theorem PySem.Challenge.cw_nextbehind_k01_error_classes_holds : PySem.Challenge.rw_nextbehind_k01_error_classes.Holds := by
  w_on; o_law; k_head; (case hw => w_witness2)
  k_fill
  refine Nb.walk_ofG (l := PySem.Challenge.rw_nextbehind_k01_error_classes) (n := 63) (k := 5) (x := "_law_script") (CX := fun _ => L2.CX0) (sp := fun w => Nb.spLaw0 _) rfl (by decide) rfl ⟨rfl, by decide, by decide⟩ (fun w h Y => PySem.W.kIn_of Y) ?F (fun _ _ a ns hl _ hS => ⟨a, ns, rfl, hS, hl, fun _ => rfl⟩) (fun _ _ _ _ _ h => h)
  case F =>
    intro w mg fa h KX G hmg
    refine' K01.all_mk KX G hmg ?a_h_source ?l_h_source ?c_h_source ?k_h_source ?a_h_next ?l_h_next ?c_h_next ?k_h_next ?a_h_pick ?l_h_pick ?c_h_pick ?k_h_pick ?a_h_made_errors ?l_h_made_errors ?c_h_made_errors ?k_h_made_errors ?a_h_class_marks ?l_h_class_marks ?c_h_class_marks ?k_h_class_marks ?a_h_families_right ?l_h_families_right ?c_h_families_right ?k_h_families_right ?a_h_fields_right ?l_h_fields_right ?c_h_fields_right ?k_h_fields_right ?a_law ?l_law ?c_law ?k_law ?a_BadName ?e_BadName ?n_BadName ?t_BadName ?l_IBadName ?c_IBadName ?k_IBadName ?a_BadBases ?e_BadBases ?n_BadBases ?t_BadBases ?l_IBadBases ?c_IBadBases ?k_IBadBases ?a_BadMethod ?e_BadMethod ?n_BadMethod ?t_BadMethod ?l_IBadMethod ?c_IBadMethod ?k_IBadMethod ?a_BadTuple ?e_BadTuple ?n_BadTuple ?t_BadTuple ?l_IBadTuple ?c_IBadTuple ?k_IBadTuple ?a_BadNames ?e_BadNames ?n_BadNames ?t_BadNames ?l_IBadNames ?c_IBadNames ?k_IBadNames ?a_BadFuture ?e_BadFuture ?n_BadFuture ?t_BadFuture ?l_IBadFuture ?c_IBadFuture ?k_IBadFuture ?a_BadOptions ?e_BadOptions ?n_BadOptions ?t_BadOptions ?l_IBadOptions ?c_IBadOptions ?k_IBadOptions ?a_BadIndex ?e_BadIndex ?n_BadIndex ?t_BadIndex ?l_IBadIndex ?c_IBadIndex ?k_IBadIndex ?a_BadSteps ?e_BadSteps ?n_BadSteps ?t_BadSteps ?l_IBadSteps ?c_IBadSteps ?k_IBadSteps ?a_BadChange ?e_BadChange ?n_BadChange ?t_BadChange ?l_IBadChange ?c_IBadChange ?k_IBadChange ?a_BadText ?e_BadText ?n_BadText ?t_BadText ?l_IBadText ?c_IBadText ?k_IBadText ?a_TooMany ?e_TooMany ?n_TooMany ?t_TooMany ?l_ITooMany ?c_ITooMany ?k_ITooMany ?a_Clash ?e_Clash ?n_Clash ?t_Clash ?l_IClash ?c_IClash ?k_IClash ?a_Taken ?e_Taken ?n_Taken ?t_Taken ?l_ITaken ?c_ITaken ?k_ITaken ?a_InUse ?e_InUse ?n_InUse ?t_InUse ?l_IInUse ?c_IInUse ?k_IInUse ?a_NoClass ?e_NoClass ?n_NoClass ?t_NoClass ?l_INoClass ?c_INoClass ?k_INoClass ?a_NoMethod ?e_NoMethod ?n_NoMethod ?t_NoMethod ?l_INoMethod ?c_INoMethod ?k_INoMethod ?a_Wanted ?e_Wanted ?n_Wanted ?t_Wanted ?l_IWanted ?c_IWanted ?k_IWanted ?a_Twice ?e_Twice ?n_Twice ?t_Twice ?l_ITwice ?c_ITwice ?k_ITwice ?a_Unasked ?e_Unasked ?n_Unasked ?t_Unasked ?l_IUnasked ?c_IUnasked ?k_IUnasked ?a_WorldError ?a_LimitError ?a_MissingError ?a_CallError ?z_len ?z_isinstance ?z_range ?z_enumerate ?z_repr ?z_ValueError ?z_ArithmeticError ?z_LookupError ?z_RuntimeError ?z_KeyError ?z_IndexError ?z_OverflowError ?z_ZeroDivisionError ?z_TypeError ?kts
    (case a_h_source => k_is)
    (case l_h_source => k_is)
    (case c_h_source => k_is)
    (case k_h_source => k_is)
    (case a_h_next => k_is)
    (case l_h_next => k_is)
    (case c_h_next => k_is)
    (case k_h_next => k_is)
    (case a_h_pick => k_is)
    (case l_h_pick => k_is)
    (case c_h_pick => k_is)
    (case k_h_pick => k_is)
    (case a_h_made_errors => k_is)
    (case l_h_made_errors => k_is)
    (case c_h_made_errors => k_is)
    (case k_h_made_errors => k_is)
    (case a_h_class_marks => k_is)
    (case l_h_class_marks => k_is)
    (case c_h_class_marks => k_is)
    (case k_h_class_marks => k_is)
    (case a_h_families_right => k_is)
    (case l_h_families_right => k_is)
    (case c_h_families_right => k_is)
    (case k_h_families_right => k_is)
    (case a_h_fields_right => k_is)
    (case l_h_fields_right => k_is)
    (case c_h_fields_right => k_is)
    (case k_h_fields_right => k_is)
    (case a_law => k_is)
    (case l_law => k_is)
    (case c_law => k_is)
    (case k_law => k_is)
    (case a_BadName => k_is)
    (case e_BadName => kernel_rfl)
    (case n_BadName => k_is)
    (case t_BadName => k_is)
    (case l_IBadName => k_is)
    (case c_IBadName => k_is)
    (case k_IBadName => k_is)
    (case a_BadBases => k_is)
    (case e_BadBases => kernel_rfl)
    (case n_BadBases => k_is)
    (case t_BadBases => k_is)
    (case l_IBadBases => k_is)
    (case c_IBadBases => k_is)
    (case k_IBadBases => k_is)
    (case a_BadMethod => k_is)
    (case e_BadMethod => kernel_rfl)
    (case n_BadMethod => k_is)
    (case t_BadMethod => k_is)
    (case l_IBadMethod => k_is)
    (case c_IBadMethod => k_is)
    (case k_IBadMethod => k_is)
    (case a_BadTuple => k_is)
    (case e_BadTuple => kernel_rfl)
    (case n_BadTuple => k_is)
    (case t_BadTuple => k_is)
    (case l_IBadTuple => k_is)
    (case c_IBadTuple => k_is)
    (case k_IBadTuple => k_is)
    (case a_BadNames => k_is)
    (case e_BadNames => kernel_rfl)
    (case n_BadNames => k_is)
    (case t_BadNames => k_is)
    (case l_IBadNames => k_is)
    (case c_IBadNames => k_is)
    (case k_IBadNames => k_is)
    (case a_BadFuture => k_is)
    (case e_BadFuture => kernel_rfl)
    (case n_BadFuture => k_is)
    (case t_BadFuture => k_is)
    (case l_IBadFuture => k_is)
    (case c_IBadFuture => k_is)
    (case k_IBadFuture => k_is)
    (case a_BadOptions => k_is)
    (case e_BadOptions => kernel_rfl)
    (case n_BadOptions => k_is)
    (case t_BadOptions => k_is)
    (case l_IBadOptions => k_is)
    (case c_IBadOptions => k_is)
    (case k_IBadOptions => k_is)
    (case a_BadIndex => k_is)
    (case e_BadIndex => kernel_rfl)
    (case n_BadIndex => k_is)
    (case t_BadIndex => k_is)
    (case l_IBadIndex => k_is)
    (case c_IBadIndex => k_is)
    (case k_IBadIndex => k_is)
    (case a_BadSteps => k_is)
    (case e_BadSteps => kernel_rfl)
    (case n_BadSteps => k_is)
    (case t_BadSteps => k_is)
    (case l_IBadSteps => k_is)
    (case c_IBadSteps => k_is)
    (case k_IBadSteps => k_is)
    (case a_BadChange => k_is)
    (case e_BadChange => kernel_rfl)
    (case n_BadChange => k_is)
    (case t_BadChange => k_is)
    (case l_IBadChange => k_is)
    (case c_IBadChange => k_is)
    (case k_IBadChange => k_is)
    (case a_BadText => k_is)
    (case e_BadText => kernel_rfl)
    (case n_BadText => k_is)
    (case t_BadText => k_is)
    (case l_IBadText => k_is)
    (case c_IBadText => k_is)
    (case k_IBadText => k_is)
    (case a_TooMany => k_is)
    (case e_TooMany => kernel_rfl)
    (case n_TooMany => k_is)
    (case t_TooMany => k_is)
    (case l_ITooMany => k_is)
    (case c_ITooMany => k_is)
    (case k_ITooMany => k_is)
    (case a_Clash => k_is)
    (case e_Clash => kernel_rfl)
    (case n_Clash => k_is)
    (case t_Clash => k_is)
    (case l_IClash => k_is)
    (case c_IClash => k_is)
    (case k_IClash => k_is)
    (case a_Taken => k_is)
    (case e_Taken => kernel_rfl)
    (case n_Taken => k_is)
    (case t_Taken => k_is)
    (case l_ITaken => k_is)
    (case c_ITaken => k_is)
    (case k_ITaken => k_is)
    (case a_InUse => k_is)
    (case e_InUse => kernel_rfl)
    (case n_InUse => k_is)
    (case t_InUse => k_is)
    (case l_IInUse => k_is)
    (case c_IInUse => k_is)
    (case k_IInUse => k_is)
    (case a_NoClass => k_is)
    (case e_NoClass => kernel_rfl)
    (case n_NoClass => k_is)
    (case t_NoClass => k_is)
    (case l_INoClass => k_is)
    (case c_INoClass => k_is)
    (case k_INoClass => k_is)
    (case a_NoMethod => k_is)
    (case e_NoMethod => kernel_rfl)
    (case n_NoMethod => k_is)
    (case t_NoMethod => k_is)
    (case l_INoMethod => k_is)
    (case c_INoMethod => k_is)
    (case k_INoMethod => k_is)
    (case a_Wanted => k_is)
    (case e_Wanted => kernel_rfl)
    (case n_Wanted => k_is)
    (case t_Wanted => k_is)
    (case l_IWanted => k_is)
    (case c_IWanted => k_is)
    (case k_IWanted => k_is)
    (case a_Twice => k_is)
    (case e_Twice => kernel_rfl)
    (case n_Twice => k_is)
    (case t_Twice => k_is)
    (case l_ITwice => k_is)
    (case c_ITwice => k_is)
    (case k_ITwice => k_is)
    (case a_Unasked => k_is)
    (case e_Unasked => kernel_rfl)
    (case n_Unasked => k_is)
    (case t_Unasked => k_is)
    (case l_IUnasked => k_is)
    (case c_IUnasked => k_is)
    (case k_IUnasked => k_is)
    (case a_WorldError => k_is)
    (case a_LimitError => k_is)
    (case a_MissingError => k_is)
    (case a_CallError => k_is)
    (case z_len => k_is)
    (case z_isinstance => k_is)
    (case z_range => k_is)
    (case z_enumerate => k_is)
    (case z_repr => k_is)
    (case z_ValueError => k_is)
    (case z_ArithmeticError => k_is)
    (case z_LookupError => k_is)
    (case z_RuntimeError => k_is)
    (case z_KeyError => k_is)
    (case z_IndexError => k_is)
    (case z_OverflowError => k_is)
    (case z_ZeroDivisionError => k_is)
    (case z_TypeError => k_is)
    (case kts => kernel_rfl)
